"""Point 28: texts of webs and of families."""

import itertools
import random
import re
import unittest

from sparkrows.errors import BadLine
from sparkrows.frames import Frame, Stretch, Web
from sparkrows.papers import format_family, format_web, read_family, read_web
from sparkrows.powers import Family
from tests.families import random_family, shape_of_family
from tests.helpers import deep, ladder, odd_values, random_frame, random_web, shape

FIRST = re.compile(r"width ([123]); inner (none|[0-2]-[0-2](?: [0-2]-[0-2])*); outer (none|[0-2]-[0-2](?: [0-2]-[0-2])*);"
                   r" (open|closed)")
SIGNS = ["", " ", "0", "1", "2", "3", "9", "10", "*", "-", ";", "; ", "n", "o", "\r", "\t", "\n", "\u0661", "\u00b9",
         "\u2028", "none", "head", "+", "x"]
NO_TEXTS = [value for value in odd_values() if not isinstance(value, str)] + [["width 1; inner none; outer none; open"],
                                                                            b"width 1", deep(lambda value: [value])]


def first_told(line):
    """The width and whether the ends are closed, None if it is no first line."""
    told = FIRST.fullmatch(line)
    if told is None:
        return None
    width = int(told[1])
    for place, text in ((2, told[2]), (3, told[3])):
        pairs = [] if text == "none" else [tuple(int(row) for row in pair.split("-")) for pair in text.split(" ")]
        if any(row >= width for pair in pairs for row in pair) or any(a >= b for a, b in zip(pairs, pairs[1:])):
            return None
        if place == 2 and any(a >= b for a, b in pairs):
            return None
    return width, told[4] == "closed"


def is_column_line(line, width):
    return re.fullmatch(r"[0-9]\*?(?: [0-9]\*?){%d}" % (width - 1), line) is not None


def begins_web(lines):
    """Whether some lines begin the text of a web."""
    told = first_told(lines[0])
    return told is not None and all(is_column_line(line, told[0]) for line in lines[1:])


def is_web(lines):
    return begins_web(lines) and len(lines) > (3 if first_told(lines[0])[1] else 1)


def parts_of(lines):
    """The lines behind the first one as signs, one for each: h, b, t for the words, c for a column, x for others."""
    width = first_told(lines[0])[0]
    words = {"head": "h", "body": "b", "tail": "t"}
    return "".join("c" if is_column_line(line, width) else words.get(line, "x") for line in lines[1:])


def begins_family(lines):
    if first_told(lines[0]) is None:
        return False
    return re.fullmatch(r"(h(c*(b(c+(tc*)?)?)?)?)?", parts_of(lines)) is not None


def is_family(lines):
    return begins_family(lines) and re.fullmatch(r"hc*bc+tc*", parts_of(lines)) is not None


def bad_line(text, begins, is_whole):
    """The number of the line with which a text is refused, None if it is one."""
    lines = text.split("\n")
    for many in range(1, len(lines) + 1):
        if not begins(lines[:many]):
            return many
    return None if is_whole(lines) else len(lines) + 1


def mutations(chance, text, many):
    """Texts near to one: a line or a sign exchanged, left out, put in, or in another sequence."""
    lines = text.split("\n")
    found = [text + "\n", "\n" + text, text + " ", " " + text, text[:-1], text[1:], text.replace("\n", "\r\n"),
             text.replace("\n", " "), text.upper(), text + "\n" + lines[-1], text.replace(" ", "  ")]
    for place in range(len(lines)):
        found.append("\n".join(lines[:place] + lines[place + 1:]))
        found.append("\n".join(lines[:place] + lines[place:place + 1] * 2 + lines[place + 1:]))
        found.append("\n".join(lines[:place]))
        for word in ("", "head", "body", "tail", "none", "1", "1 1", "1 1 1", lines[0]):
            found.append("\n".join(lines[:place] + [word] + lines[place:]))
            found.append("\n".join(lines[:place] + [word] + lines[place + 1:]))
    for _ in range(many):
        turned = list(lines)
        one, other = chance.randrange(len(lines)), chance.randrange(len(lines))
        turned[one], turned[other] = turned[other], turned[one]
        found.append("\n".join(turned))
        place = chance.randrange(len(text))
        found.append(text[:place] + chance.choice(SIGNS) + text[place + 1:])
        found.append(text[:place] + chance.choice(SIGNS) + text[place:])
    return found


class WebTest(unittest.TestCase):

    def test_by_hand(self):
        ring = Web(Stretch(Frame(2, outer=[(1, 0), (0, 0)]), [((1, True), (2, False))] * 3), closed=True)
        text = "width 2; inner none; outer 0-0 1-0; closed\n1* 2\n1* 2\n1* 2"
        self.assertEqual(format_web(ring), text)
        self.assertTrue(read_web(text) == ring)
        web = Web(Stretch(Frame(3, inner=[(1, 2), (0, 1)]), [((0, False), (9, True), (5, False))]))
        text = "width 3; inner 0-1 1-2; outer none; open\n0 9* 5"
        self.assertEqual(format_web(web=web), text)
        self.assertTrue(read_web(text=text) == web)
        self.assertEqual(format_web(Web(Stretch(Frame(1), [((0, True),)]))), "width 1; inner none; outer none; open\n0*")

    def test_written_and_read(self):
        chance = random.Random(171)
        for _ in range(200):
            web = random_web(chance)
            before = shape(web)
            text = format_web(web)
            self.assertIs(type(text), str)
            self.assertIsNone(bad_line(text, begins_web, is_web))
            again = read_web(text)
            self.assertTrue(again == web)
            self.assertEqual((shape(again), shape(web)), (before, before))

    def test_each_frame(self):
        for width in (1, 2):
            pairs = list(itertools.product(range(width), repeat=2))
            for outer in itertools.chain(*(itertools.combinations(pairs, many) for many in range(len(pairs) + 1))):
                for inner in ([], [(0, 1)] if width == 2 else []):
                    web = Web(Stretch(Frame(width, inner=inner, outer=outer[::-1]), [((1, False),) * width] * 3),
                              closed=len(outer) % 2 == 0)
                    self.assertTrue(read_web(format_web(web)) == web)

    def test_each_cell(self):
        cells = [(need, starts) for need in range(10) for starts in (False, True)]
        web = Web(Stretch(Frame(1), [(cell,) for cell in cells]))
        self.assertEqual(format_web(web).split("\n")[1:], [f"{need}{'*' * starts}" for need, starts in cells])
        self.assertTrue(read_web(format_web(web)) == web)

    def refused(self, text, line):
        with self.assertRaises(BadLine) as caught:
            read_web(text)
        self.assertEqual(repr(caught.exception.line), repr(line), repr(text))

    def test_lines_that_lack(self):
        first = "width 1; inner none; outer 0-0; "
        self.refused("", 1)
        self.refused("\n", 1)
        self.refused(first + "open", 2)
        self.refused(first + "open\n", 2)
        self.refused(first + "closed", 2)
        self.refused(first + "closed\n1", 3)
        self.refused(first + "closed\n1\n1", 4)
        self.refused(first + "closed\n1\n1\n", 4)
        self.assertEqual(len(read_web(first + "closed\n1\n1\n1").stretch), 3)
        self.assertEqual(len(read_web(first + "open\n1").stretch), 1)

    def test_wrong_first_lines(self):
        for line in ("width 0; inner none; outer none; open", "width 4; inner none; outer none; open",
                     "width 01; inner none; outer none; open", "width  1; inner none; outer none; open",
                     "Width 1; inner none; outer none; open", "width 1;inner none; outer none; open",
                     "width 1; outer none; inner none; open", "width 1; inner none; outer none; OPEN",
                     "width 1; inner none; outer none; ring", "width 1; inner none; outer none",
                     "width 1; inner none; outer none; open;", "width 1; inner none; outer none; open ",
                     "width 1; inner ; outer none; open", "width 1; inner; outer none; open",
                     "width 1; inner none; outer 0-0 0-0; open", "width 1; inner none; outer 0-1; open",
                     "width 2; inner 1-0; outer none; open", "width 2; inner 0-0; outer none; open",
                     "width 2; inner 0-1 0-1; outer none; open", "width 2; inner none; outer 1-0 0-0; open",
                     "width 2; inner none; outer 0-0  1-0; open", "width 2; inner none; outer 0-0,1-0; open",
                     "width 2; inner none; outer (0, 0); open", "width 2; inner none; outer 0-2; open",
                     "width 2; inner none none; outer none; open", "width 2; inner none; outer none 0-0; open",
                     "width 3; inner 0-1 0-2 1-2 2-2; outer none; open", "width 2; inner none; outer +0-0; open",
                     "width 1; inner none; outer none; open\r", "width \u0661; inner none; outer none; open"):
            for columns in ("", "\n1", "\n1 1", "\n1 1 1"):
                self.refused(line + columns, 1)

    def test_wrong_columns(self):
        first = "width 2; inner none; outer none; open"
        for line in ("", " ", "1", "1 1 1", "1  1", " 1 1", "1 1 ", "1,1", "1 10", "1 -1", "1 a", "1 *", "1 1**", "1 *1",
                     "1 1 *", "1* *", "01 1", "1 1\r", "head", "none", "(1, True)", "1 \u0661", "1 \u00b2", "1\t1",
                     "1 1\u2028"):
            self.refused(first + "\n" + line, 2)
            self.refused(first + "\n1 1*\n" + line, 3)
            self.refused(first + "\n1 1*\n" + line + "\n" + line, 3)

    def test_mutations(self):
        chance = random.Random(172)
        seen = {True: 0, False: 0}
        for _ in range(60):
            for text in mutations(chance, format_web(random_web(chance, 1, 4)), 20):
                expected = bad_line(text, begins_web, is_web)
                seen[expected is None] += 1
                if expected is None:
                    self.assertEqual(format_web(read_web(text)), text)
                else:
                    self.refused(text, expected)
        self.assertGreater(min(seen.values()), 300)

    def test_no_strings(self):
        for value in NO_TEXTS:
            self.refused(value, 1)

    def test_texts_of_any_kind(self):
        for value in ["a", "12", "(0, 0)", "0", "\n\n", " ", "open", "none", "head\nbody\ntail", "width 1"]:
            self.refused(value, 1)


class FamilyTest(unittest.TestCase):

    def test_by_hand(self):
        frame = ladder(2)
        head, body, tail = [Stretch(frame, columns) for columns in (
            [((1, True), (2, False))], [((1, False), (2, False)), ((3, False), (0, True))], [])]
        first = "width 2; inner 0-1; outer 0-0 1-1; "
        text = first + "open\nhead\n1* 2\nbody\n1 2\n3 0*\ntail"
        self.assertEqual(format_family(Family(body, head=head)), text)
        self.assertTrue(read_family(text) == Family(body, head=head, tail=tail))
        text = first + "closed\nhead\nbody\n1 2\n3 0*\ntail\n1* 2"
        self.assertEqual(format_family(family=Family(body, tail=head, closed=True)), text)
        self.assertTrue(read_family(text=text) == Family(body, tail=head, closed=True))
        self.assertEqual(format_family(Family(head)), first + "open\nhead\nbody\n1* 2\ntail")

    def test_written_and_read(self):
        chance = random.Random(173)
        for _ in range(200):
            family = random_family(chance, random_frame(chance), most=3)
            before = shape_of_family(family)
            text = format_family(family)
            self.assertIsNone(bad_line(text, begins_family, is_family))
            again = read_family(text)
            self.assertTrue(again == family)
            self.assertEqual((shape_of_family(again), shape_of_family(family)), (before, before))

    def refused(self, text, line):
        with self.assertRaises(BadLine) as caught:
            read_family(text)
        self.assertEqual(repr(caught.exception.line), repr(line), repr(text))

    def test_lines_that_lack(self):
        first = "width 1; inner none; outer 0-0; open"
        self.refused(first + "\nhead\nbody\ntail", 4)
        self.refused("", 1)
        self.refused(first, 2)
        self.refused(first + "\nhead", 3)
        self.refused(first + "\nhead\n1", 4)
        self.refused(first + "\nhead\n1\nbody", 5)
        self.refused(first + "\nhead\nbody", 4)
        self.refused(first + "\nhead\nbody\n1\n2", 6)
        self.assertTrue(len(read_family(first + "\nhead\nbody\n1\ntail").body) == 1)

    def test_parts_that_are_wrong(self):
        first = "width 1; inner none; outer 0-0; open"
        self.refused(first + "\n1\nhead\nbody\n1\ntail", 2)
        self.refused(first + "\nbody\n1\ntail", 2)
        self.refused(first + "\nhead\nhead\nbody\n1\ntail", 3)
        self.refused(first + "\nhead\ntail\nbody\n1", 3)
        self.refused(first + "\nhead\nbody\n1\nbody\n1\ntail", 5)
        self.refused(first + "\nhead\nbody\n1\ntail\ntail", 6)
        self.refused(first + "\nhead\nbody\n1\ntail\nhead", 6)
        self.refused(first + "\nhead\nbody\n1\ntail\n", 6)
        self.refused(first + "\nhead\nbody\n1\ntail\n1\nbody", 7)
        self.refused(first + "\nhead\nbody\n1 1\ntail", 4)
        self.refused(first + "\nHead\nbody\n1\ntail", 2)
        self.refused(first + "\nhead \nbody\n1\ntail", 2)

    def test_mutations(self):
        chance = random.Random(174)
        seen = {True: 0, False: 0}
        for _ in range(50):
            for text in mutations(chance, format_family(random_family(chance, random_frame(chance))), 20):
                expected = bad_line(text, begins_family, is_family)
                seen[expected is None] += 1
                if expected is None:
                    self.assertEqual(format_family(read_family(text)), text)
                else:
                    self.refused(text, expected)
        self.assertGreater(min(seen.values()), 300)

    def test_no_strings(self):
        for value in NO_TEXTS:
            self.refused(value, 1)

    def test_the_text_of_the_other_kind(self):
        chance = random.Random(175)
        for _ in range(20):
            with self.assertRaises(BadLine) as caught:
                read_web(format_family(random_family(chance)))
            self.assertEqual(caught.exception.line, 2)
            self.refused(format_web(random_web(chance)), 2)

    def test_many_columns(self):
        # No number of columns is too great for a text.
        text = "\n".join(["width 1; inner none; outer 0-0; closed", *["2*"] * 100])
        self.assertEqual(format_web(read_web(text)), text)


if __name__ == "__main__":
    unittest.main()
