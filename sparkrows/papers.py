"""Papers: the texts of webs and of families, written and read."""

from sparkrows.errors import BadLine
from sparkrows.frames import GREATEST_NEED, WIDEST, Frame, Stretch, Web
from sparkrows.powers import Family

PARTS = ("head", "body", "tail")
NO_PAIRS = "none"


def _pairs_text(pairs):
    """Ascending pairs, as a line has them."""
    return " ".join([f"{a}-{b}" for a, b in pairs]) if pairs else NO_PAIRS


def _first_line(frame, closed):
    ending = "closed" if closed else "open"
    return f"width {frame.width}; inner {_pairs_text(frame.inner)}; outer {_pairs_text(frame.outer)}; {ending}"


def _cell_text(cell):
    need, starts = cell
    return f"{need}*" if starts else f"{need}"


def _column_lines(stretch):
    """The lines of the columns of a stretch."""
    return [" ".join([_cell_text(cell) for cell in column]) for column in stretch.columns]


def format_web(web):
    """The text of a web."""
    lines = [_first_line(web.stretch.frame, web.closed)] + _column_lines(web.stretch)
    return "\n".join(lines)


def format_family(family):
    """The text of a family."""
    lines = [_first_line(family.body.frame, family.closed)]
    for word, part in zip(PARTS, [family.head, family.body, family.tail]):
        lines = lines + [word] + _column_lines(part)
    return "\n".join(lines)


def _read_pairs(text, name, allowed):
    """The pairs of a text like "inner 0-1", None if it is none of such pairs, ascending."""
    word, _, rest = text.partition(" ")
    if word != name:
        return None
    if rest == NO_PAIRS:
        return []
    known = {f"{a}-{b}": (a, b) for a, b in allowed}
    pairs = [known.get(told) for told in rest.split(" ")]
    if None in pairs or pairs != sorted(set(pairs)):
        return None
    return pairs


def _read_first(line):
    """The frame that a first line tells, and whether it tells a ring; None if it is no first line."""
    widths = {f"width {width}": width for width in range(1, WIDEST + 1)}
    endings = {"open": False, "closed": True}
    told = line.split("; ")
    if len(told) != 4 or told[0] not in widths or told[3] not in endings:
        return None
    width = widths[told[0]]
    pairs = [(a, b) for a in range(width) for b in range(width)]
    inner = _read_pairs(told[1], "inner", [(a, b) for a, b in pairs if a < b])
    outer = _read_pairs(told[2], "outer", pairs)
    if inner is None or outer is None:
        return None
    return Frame(width, inner=inner, outer=outer), endings[told[3]]


def _read_column(line, width):
    """The column that a line tells, None if it tells none of this width."""
    known = [(need, starts) for need in range(GREATEST_NEED + 1) for starts in (False, True)]
    cells = {_cell_text(cell): cell for cell in known}
    told = line.split(" ")
    if len(told) != width or not all([word in cells for word in told]):
        return None
    return tuple([cells[word] for word in told])


def _read_lines(value):
    """The lines of any value, and the frame and the ending that the first one tells."""
    if not isinstance(value, str):
        raise BadLine(1)
    lines = value.split("\n")
    first = _read_first(lines[0])
    if first is None:
        raise BadLine(1)
    return lines, first[0], first[1]


def read_web(text):
    """The web with a text."""
    lines, frame, closed = _read_lines(text)
    columns = [_read_column(line, frame.width) for line in lines[1:]]
    if None in columns:
        raise BadLine(columns.index(None) + 2)
    fewest = 3 if closed else 1
    if len(columns) < fewest:
        raise BadLine(len(lines) + 1)
    return Web(Stretch(frame, columns), closed=closed)


def _begins_part(line, parts):
    """Whether a line begins the next one behind some parts; there is none behind a body without columns."""
    if len(parts) == len(PARTS) or line != PARTS[len(parts)]:
        return False
    return len(parts) < 2 or len(parts[1]) > 0


def read_family(text):
    """The family with a text."""
    lines, frame, closed = _read_lines(text)
    parts = []
    for number, line in enumerate(lines[1:], start=2):
        column = _read_column(line, frame.width)
        if column is not None and parts:
            parts[-1].append(column)
        elif _begins_part(line, parts):
            parts.append([])
        else:
            raise BadLine(number)
    if len(parts) < len(PARTS):
        raise BadLine(len(lines) + 1)
    head, body, tail = [Stretch(frame, columns) for columns in parts]
    return Family(body, head=head, tail=tail, closed=closed)
