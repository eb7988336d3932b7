"""Who joins at which moment, and who is won in the end."""

from sparkrows.errors import NoSeat


def _lacking(web):
    """For each seat that does not start, how many neighbours it needs."""
    cells = {seat: web.cell(seat) for seat in web.seats()}
    return {seat: cells[seat][0] for seat in cells if not cells[seat][1]}


def rounds(web):
    """For each moment up to the last one at which a seat joins, the seats that join at it."""
    lacking = _lacking(web)
    joining = [seat for seat in web.seats() if seat not in lacking]
    found = []
    # Nobody may start and somebody join at moment 1, so moment 0 is told in any case.
    while joining or not found:
        found.append(joining)
        for seat in joining:
            for near in web.neighbours(seat):
                if near in lacking:
                    lacking[near] -= 1
        joining = sorted([seat for seat in lacking if lacking[seat] <= 0])
        for seat in joining:
            del lacking[seat]
    return [] if found == [[]] else found


def moment(web, seat):
    """The moment at which a seat joins, None if it is not won."""
    if not web.is_seat(seat):
        raise NoSeat(seat)
    for number, joining in enumerate(rounds(web)):
        if seat in joining:
            return number
    return None


def won(web):
    """The seats that are won, ascending."""
    return sorted([seat for joining in rounds(web) for seat in joining])


def all_won(web):
    """Whether all seats are won."""
    return won(web) == web.seats()
