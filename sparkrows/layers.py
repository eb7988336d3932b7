"""Layers: columns of which some cells may be changed at a price, and the fronts behind them at the least sums."""

from sparkrows.frames import BAR, is_integer, is_place
from sparkrows.fronts import is_front, settled
from sparkrows.tables import SIDES, Sight, many_in

GREATEST_PRICE = 1000


def _is_price(value):
    return value is None or is_place(value, GREATEST_PRICE + 1)


def are_prices(stretch, value):
    """Whether any value is prices for a stretch."""
    if not isinstance(value, list) or len(value) != len(stretch):
        return False
    width = stretch.frame.width
    if not all([isinstance(prices, tuple) and len(prices) == width for prices in value]):
        return False
    return all([_is_price(price) for prices in value for price in prices])


def _starters(column, prices):
    """For each row whose cell may be made a starter the price and the cell that it has then."""
    return {
        row: (prices[row], (need, True))
        for row, (need, starts) in enumerate(column) if not starts and prices[row] is not None
    }


def _bars(prices):
    """For each row whose seat may be barred the price and the cell that it has then."""
    return {row: (price, BAR) for row, price in enumerate(prices) if price is not None}


def _choices(column, changes):
    """All that can be made of a column by some of the changes: the sum, the rows that are changed, and the column."""
    found = [(0, (), ())]
    for row, cell in enumerate(column):
        kept = [(price, rows, cells + (cell,)) for price, rows, cells in found]
        changed = []
        if row in changes:
            more, other = changes[row]
            changed = [(price + more, rows + (row,), cells + (other,)) for price, rows, cells in found]
        found = kept + changed
    return found


class Layer:
    """A column with its choices: which fronts can come about behind it.

    The verdicts tell the bool of the front behind, by the rows of the column and the bool of the front ahead.
    """

    def __init__(self, sight, choices, verdicts):
        self._choices = [(price, rows, sight.answers(column)) for price, rows, column in choices]
        self._sides = sorted(self._choices[0][2])
        self._verdicts = verdicts
        self._behind = {}

    def behind(self, front):
        """For each front that can come about behind a front the least price of it, and the rows changed at it."""
        if front not in self._behind:
            self._behind[front] = self._worked_out(front)
        return self._behind[front]

    def _worked_out(self, front):
        found = {}
        for price, rows, answers in self._choices:
            told = settled(self._sides, front, answers)
            behind = tuple([(side, self._verdicts[side, ahead]) for side, ahead in told])
            if behind not in found or price < found[behind][0]:
                found[behind] = (price, rows)
        return found


def starter_layers(stretch, prices):
    """The layers of a stretch in which cells may be made starters; their fronts tell whether all come to be in."""
    frame = stretch.frame
    sight = Sight(frame)
    known = SIDES[:1 << frame.width]
    verdicts = {(side, full): full and len(side) == frame.width for side in known for full in (False, True)}
    made = {}
    for key in zip(stretch.columns, prices):
        if key not in made:
            made[key] = Layer(sight, _choices(key[0], _starters(key[0], key[1])), verdicts)
    return [made[key] for key in zip(stretch.columns, prices)]


def bar_layers(stretch, prices, watched):
    """The layers of a stretch in which seats may be barred; their fronts tell whether a watched one comes to be in."""
    sight = Sight(stretch.frame)
    known = SIDES[:1 << stretch.frame.width]
    rows_at = [tuple(sorted([row for other, row in watched if other == place])) for place in range(len(stretch))]
    made = {}
    for key in zip(stretch.columns, prices, rows_at):
        if key not in made:
            verdicts = {(side, seen): seen or many_in(key[2], side) > 0 for side in known for seen in (False, True)}
            made[key] = Layer(sight, _choices(key[0], _bars(key[1])), verdicts)
    return [made[key] for key in zip(stretch.columns, prices, rows_at)]


def sums_behind(layers, sums):
    """The least sums of the fronts behind some layers, by those of the fronts ahead of them."""
    for layer in layers:
        further = {}
        for ahead, before in sums.items():
            for front, (price, _) in layer.behind(ahead).items():
                if front not in further or before + price < further[front]:
                    further[front] = before + price
        sums = further
    return sums


def tells(front):
    """The bool of a front for nobody behind it."""
    return front[0][1]


def _ways(layer, sums, front):
    """The ways to a front behind a layer, by the sums ahead of it: the sum, the front ahead, and the rows changed."""
    found = []
    for ahead, before in sums.items():
        known = layer.behind(ahead)
        if front in known:
            price, rows = known[front]
            found.append((before + price, ahead, rows))
    return found


def _are_sums(value, width):
    """Whether any value is a dict from fronts to integers."""
    if not isinstance(value, dict):
        return False
    return all([is_front(width, front) and is_integer(value[front]) for front in value])


def _leads_on(layer, sums, further):
    """Whether each front behind a layer has at most the sum of a front ahead and the price together."""
    for ahead, before in sums.items():
        for front, (price, _) in layer.behind(ahead).items():
            if front not in further or further[front] > before + price:
                return False
    return True


class Passage:
    """The layers of an open web from a first front on, behind which the last front is to tell what is wished."""

    def __init__(self, width, layers, front, wished):
        self._width = width
        self._layers = layers
        self._front = front
        self._wished = wished

    def floor(self):
        """For each number of layers, from none on, the least sums of the fronts behind them."""
        found = [{self._front: 0}]
        for layer in self._layers:
            found.append(sums_behind([layer], found[-1]))
        return found

    def cheapest(self):
        """The least sum with which the last front tells what is wished, and the seats changed; None if none does."""
        floor = self.floor()
        last = self._wished_for(floor[-1])
        if not last:
            return None
        front = min(last, key=lambda some: last[some])
        return last[front], self._seats_for(floor, front)

    def is_floor(self, amount, value):
        """Whether any two values are an amount, or None, and a floor for it."""
        if amount is not None and not is_integer(amount):
            return False
        if not isinstance(value, list) or len(value) != len(self._layers) + 1:
            return False
        if not all([_are_sums(sums, self._width) for sums in value]):
            return False
        if self._front not in value[0] or value[0][self._front] > 0:
            return False
        if not all([_leads_on(layer, value[place], value[place + 1]) for place, layer in enumerate(self._layers)]):
            return False
        last = self._wished_for(value[-1])
        return not last if amount is None else all([last[front] >= amount for front in last])

    def _wished_for(self, sums):
        """The fronts that tell what is wished, with their sums."""
        return {front: sums[front] for front in sums if tells(front) == self._wished}

    def _seats_for(self, floor, front):
        """The seats that are changed for a front behind all layers at its sum, ascending."""
        seats = []
        for place in range(len(self._layers) - 1, -1, -1):
            _, front, rows = min(_ways(self._layers[place], floor[place], front))
            seats = [(place, row) for row in rows] + seats
        return seats
