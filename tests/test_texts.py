"""[23]: texts, written and read."""

import itertools
import re
import unittest

from drycells.cheapest import case_of
from drycells.texts import (
    case_text, key_text, picture_text, prices_text, read_case, read_key, read_picture, read_prices, read_row,
    read_slope,
    row_text, slope_text, touched_text, with_touched,
)
from tests import brute
from tests.checks import Raises, check_calls, outcome

UNFIT = Raises("Unfit")
PAGE, KEY = (9, ((4, 7), (2, 5))), (3, 2, ((1, 0), (0, 2), (1, 1), (0, 0)))
NUMBER = "(?:0|[1-9][0-9]*)"
HEIGHT = f"(?:{NUMBER}|-[1-9][0-9]*|-)"
HIDDEN = ("hidden", (4, ((0,),)), ((0,), (1,)))
ROWS = {2: "[01]", 3: "[012]", 5: "[01234]"}


def bad_line(number):
    return Raises("BadLine", number=number)


def bad_text(place):
    return Raises("BadText", place=place)


def begins_picture(lines):
    """Whether these lines, one at least, begin the text of a PICTURE."""
    head = re.fullmatch(f"picture ({NUMBER})", lines[0])
    if not head or not 4 <= int(head[1]) <= 255:
        return False
    rows = [line.split() for line in lines[1:]]
    return all(re.fullmatch(f"(?: {NUMBER})+", line)
               for line in lines[1:]) and len({len(row) for row in rows}) < 2 and all(
        int(grey) <= int(head[1]) for row in rows for grey in row)


def begins_slope(lines):
    return lines[0] == "slope" and all(re.fullmatch(f"(?: {HEIGHT})+", line) for line in lines[1:])


def is_packed(lines, size, word):
    """Whether behind the first line all but the last have size words, this one no more."""
    counts = [len(line.split()) for line in lines[1:]]
    return (all(re.fullmatch(f"(?: {word})+", line) for line in lines[1:]) and all(own == size for own in counts[:-1])
            and all(own <= size for own in counts))


def begins_prices(lines):
    return lines[0] == "prices" and is_packed(lines, 16, f"(?:{NUMBER}|-)")


def begins_key(lines):
    head = re.fullmatch(f"key ([235]) ({NUMBER})", lines[0])
    if not head:
        return False
    return is_packed(lines, 8, f"{ROWS[int(head[1])]}{{{head[2]}}}" if head[2] != "0" else "-")


def begins_case(p):
    def begins(lines):
        if lines[0] != "hidden":
            return bool(re.fullmatch(f"barred 0*{ROWS[p]}+",
                                     lines[0])) and lines[0].strip("bared 0") != "" and len(lines) == 1
        rest = lines[1:]
        place = rest.index("slope") if "slope" in rest else len(rest)
        if rest and (not begins_picture(rest[:place] or ["slope"]) or place < len(rest) and place < 2):
            return False
        return place == len(rest) or begins_slope(rest[place:])
    return begins


def is_whole(lines):
    """Whether lines that begin a text of one, behind a first line, are enough for it."""
    if lines[0].startswith("barred"):
        return True
    if lines[0] == "hidden":
        return "slope" in lines[:-1]
    return len(lines) > 1


READERS = {
    "read_picture": (begins_picture, picture_text), "read_slope": (begins_slope, slope_text),
    "read_prices": (begins_prices, prices_text), "read_key": (begins_key, key_text),
}
PICTURES = (PAGE, (4, ((0,),)), (255, ((255, 10, 9), (0, 100, 4))), (10, ((10,), (9,), (0,))))
SLOPES = (((0,),), ((0,), (0, None), (-2,)), ((None, -10, 7),) * 2, ((0,), (5, 0), (None,)))
PRICES = ((1, None, 20), (None,), (3,) * 15, (0,) * 16, (1, None) * 8 + (7,), (2,) * 32, (10,) * 33)
KEYS = (KEY, (2, 0, ((),) * 3), (5, 1, ((4,),) * 8), (2, 12, ((0, 1) * 6,) * 9), (2, 1, ((1,), (0,)) * 8),
        (5, 0, ((),) * 17))
CASES = (
    (2, ("barred", (1, 0))), (3, ("barred", (2,))), (5, ("barred", (0, 4))), (2, HIDDEN),
    (3, ("hidden", PAGE, ((0,), (None, -3), (7,)))),
    (5, ("hidden", PICTURES[2], SLOPES[2])),
)


def near_texts(text):
    """The text with one sign altered, left out, put in, and with lines wanting, twice, exchanged, parted otherwise."""
    for place in range(len(text) + 1):
        yield text[:place]
        for sign in " -0125a\n":
            yield text[:place] + sign + text[place:]
            yield text[:place] + sign + text[place + 1:]
        yield text[:place] + text[place + 1:]
        yield text[:place] + "  " + text[place:]
    lines = text.split("\n")
    for place in range(len(lines)):
        yield "\n".join(lines[:place])
        yield "\n".join(lines[place:])
        yield "\n".join(lines[:place] + lines[place + 1:])
        yield "\n".join(lines[:place + 1] + lines[place:])
        yield "\n".join(lines[:place] + lines[place + 1:place + 2] + lines[place:place + 1] + lines[place + 2:])
    yield from (text + "\n", "\n" + text, text + "\n ", text + " ", text.upper(), text.replace(" ", "  "),
                text.replace("\n", ""))


def expected_of(begins, text, told):
    """What a reader of text is to tell: told, or BadLine, as the document has it."""
    lines = text.split("\n") if text else []
    for number in range(1, len(lines) + 1):
        if not begins(lines[:number]):
            return bad_line(number)
    if not lines or not is_whole(lines):
        return bad_line(len(lines) + 1)
    return told


class CallsTest(unittest.TestCase):
    def test_rows(self):
        check_calls(
            self, ("row_text", ((),), "-"), ("row_text", ((1, 0, 2),), "102"), ("row_text", ((4,) * 12,), "4" * 12),
            ("read_row", (3, "102"), (1, 0, 2)), ("read_row", (3, "-"), ()), ("read_row", (2, "0"), (0,)),
            ("read_row", (3, ""), bad_text(0)),
            ("read_row", (3, "132"), bad_text(1)), ("read_row", (2, "-1"), bad_text(1)),
            ("read_row", (2, "1-"), bad_text(1)),
            ("read_row", (2, " 1"), bad_text(0)), ("read_row", (2, "1 "), bad_text(1)),
            ("read_row", (2, "2"), bad_text(0)),
            ("read_row", (5, "43210"), (4, 3, 2, 1, 0)), ("read_row", (5, "432105"), bad_text(5)),
            ("read_row", (2, "--"), bad_text(1)),
            ("read_row", (2, "0" * 70), (0,) * 70),
        )
        for p, size in itertools.product((2, 3, 5), range(5)):
            for signs in itertools.product("-0245 a", repeat=size):
                text, right = "".join(signs), re.compile(f"-|{ROWS[p]}*")
                wrong = [place for place in range(size) if not right.fullmatch(text[:place + 1])]
                told = outcome("read_row", (p, text))
                if text == "" or wrong:
                    self.assertEqual(told, bad_text(wrong[0] if text else 0))
                else:
                    self.assertEqual(told, () if text == "-" else tuple(map(int, text)))
                    self.assertEqual(row_text(told), text)

    def test_written(self):
        check_calls(
            self, ("picture_text", (PAGE,), "picture 9\n 4 7\n 2 5"), ("picture_text", (PICTURES[1],), "picture 4\n 0"),
            ("prices_text", ((1, None, 20),), "prices\n 1 - 20"), ("prices_text", ((3,) * 16,), "prices\n" + " 3" * 16),
            ("prices_text", ((3,) * 17,), "prices\n" + " 3" * 16 + "\n 3"),
            ("prices_text", ((None,) * 33,), "prices" + ("\n" + " -" * 16) * 2 + "\n -"),
            ("key_text", (KEY,), "key 3 2\n 10 02 11 00"),
            ("key_text", ((2, 0, ((),) * 9),), "key 2 0\n - - - - - - - -\n -"),
            ("key_text", ((5, 1, ((4,),) * 8),), "key 5 1\n 4 4 4 4 4 4 4 4"),
            ("slope_text", (((0,), (0, None), (-2,)),), "slope\n 0\n 0 -\n -2"),
            ("case_text", (("barred", (1, 2)),), "barred 12"),
            ("case_text", (HIDDEN,), "hidden\npicture 4\n 0\nslope\n 0\n 1"),
            ("touched_text", (PAGE, (9, ((4, 8), (0, 5)))), " 1 8\n 2 0"), ("touched_text", (PAGE, PAGE), ""),
            ("touched_text", ((255, ((0,) * 11,)), (255, ((0,) * 10 + (200,),))), " 10 200"),
            ("touched_text", (PAGE, (8, PAGE[1])), UNFIT), ("touched_text", (PAGE, (9, ((4, 7, 2, 5),))), UNFIT),
            ("touched_text", (PAGE, 9), UNFIT), ("touched_text", (None, PAGE), UNFIT),
        )

    def test_read(self):
        check_calls(
            self, ("read_picture", ("picture 9\n 4 7\n 2 5",), PAGE), ("read_picture", ("",), bad_line(1)),
            ("read_picture", ("picture 9",), bad_line(2)),
            ("read_picture", ("picture 9\n 4 7\n 2 10",), bad_line(3)),
            ("read_picture", ("picture 9\n 4 7\n 2",), bad_line(3)),
            ("read_picture", ("picture 9\n 4 7\n",), bad_line(3)), ("read_picture", ("picture 3\n 1",), bad_line(1)),
            ("read_picture", ("picture 256\n 1",), bad_line(1)), ("read_picture", ("picture 09\n 1",), bad_line(1)),
            ("read_picture", ("picture 9 \n 1",), bad_line(1)),
            ("read_picture", ("picture  9\n 1",), bad_line(1)), ("read_picture", (" picture 9\n 1",), bad_line(1)),
            ("read_picture", ("picture 9\n1",), bad_line(2)),
            ("read_picture", ("picture 9\n 01",), bad_line(2)), ("read_picture", ("picture 9\n -1",), bad_line(2)),
            ("read_picture", ("picture 9\n  1",), bad_line(2)),
            ("read_picture", ("picture 9\n 1  2",), bad_line(2)), ("read_picture", ("picture 9\n 1 ",), bad_line(2)),
            ("read_picture", ("picture 9\n ",), bad_line(2)),
            ("read_picture", ("picture 9\n 1\n\n 2",), bad_line(3)), ("read_picture", ("prices\n 1",), bad_line(1)),
            ("read_picture", ("\n",), bad_line(1)),
            ("read_prices", ("prices\n -",), (None,)), ("read_prices", ("prices",), bad_line(2)),
            ("read_prices", ("prices\n 3\n 3",), bad_line(3)),
            ("read_prices", ("prices\n" + " 3" * 16 + "\n 3",), (3,) * 17),
            ("read_prices", ("prices\n" + " 3" * 17,), bad_line(2)),
            ("read_prices", ("prices\n" + " 3" * 15 + "\n 3",), bad_line(3)),
            ("read_prices", ("prices\n" + " 3" * 16 + "\n",), bad_line(3)),
            ("read_prices", ("prices\n -1",), bad_line(2)), ("read_prices", ("prices\n -0",), bad_line(2)),
            ("read_prices", ("prices ",), bad_line(1)),
            ("read_prices", ("prices\n 5 - 00",), bad_line(2)), ("read_prices", ("",), bad_line(1)),
            ("read_key", ("key 3 2\n 10 02 11 00",), KEY), ("read_key", ("key 3 2",), bad_line(2)),
            ("read_key", ("key 4 2\n 10",), bad_line(1)),
            ("read_key", ("key 3 02\n 10",), bad_line(1)), ("read_key", ("key 3\n 10",), bad_line(1)),
            ("read_key", ("key 3 2\n 1",), bad_line(2)),
            ("read_key", ("key 3 2\n 13",), bad_line(2)), ("read_key", ("key 2 0\n - -",), (2, 0, ((), ()))),
            ("read_key", ("key 2 0\n 0",), bad_line(2)),
            ("read_key", ("key 2 1\n -",), bad_line(2)),
            ("read_key", ("key 2 1\n" + " 1" * 8 + "\n 0",), (2, 1, ((1,),) * 8 + ((0,),))),
            ("read_key", ("key 2 1\n" + " 1" * 9,), bad_line(2)),
            ("read_key", ("key 2 1\n" + " 1" * 7 + "\n 1",), bad_line(3)), ("read_key", ("",), bad_line(1)),
            ("read_key", ("key 2 999999999999\n 1",), bad_line(2)), ("read_key", ("key 2 -1\n 1",), bad_line(1)),
            ("read_key", ("key",), bad_line(1)),
            ("read_slope", ("slope\n 0\n 0 -\n -2",), ((0,), (0, None), (-2,))),
            ("read_slope", ("slope",), bad_line(2)), ("read_slope", ("slope\n -0",), bad_line(2)),
            ("read_slope", ("slope\n 0\n",), bad_line(3)), ("read_slope", ("slope\n --1",), bad_line(2)),
            ("read_slope", ("slope\n 0 -1 - 007",), bad_line(2)),
            ("read_slope", ("",), bad_line(1)), ("read_slope", ("slope 0",), bad_line(1)),
            ("read_case", (3, "hidden\npicture 4\n 0\nslope\n 0\n 1"), HIDDEN),
            ("read_case", (3, "barred 12"), ("barred", (1, 2))),
            ("read_case", (2, "barred 12"), bad_line(1)), ("read_case", (3, "barred 00"), bad_line(1)),
            ("read_case", (3, "barred -"), bad_line(1)),
            ("read_case", (3, "barred 12\n"), bad_line(2)), ("read_case", (3, "barred"), bad_line(1)),
            ("read_case", (3, ""), bad_line(1)),
            ("read_case", (3, "hidden"), bad_line(2)), ("read_case", (3, "hidden\npicture 4"), bad_line(3)),
            ("read_case", (3, "hidden\npicture 4\n 0"), bad_line(4)),
            ("read_case", (3, "hidden\npicture 4\n 0\nslope"), bad_line(5)),
            ("read_case", (3, "hidden\nslope\n 0"), bad_line(2)),
            ("read_case", (3, "hidden\npicture 4\nslope\n 0"), bad_line(3)),
            ("read_case", (3, "hidden\npicture 4\n 5\nslope\n 0"), bad_line(3)),
            ("read_case", (3, "hidden\npicture 4\n 0\n 5\nslope\n 0"), bad_line(4)),
            ("read_case", (3, "hidden\npicture 4\n 0\nslope\n 0\nslope"), bad_line(6)),
            ("read_case", (3, "hidden 12"), bad_line(1)), ("read_case", (3, "barred 12 "), bad_line(1)),
            ("read_case", (3, "barred  12"), bad_line(1)),
        )

    def test_touched(self):
        check_calls(
            self, ("with_touched", (PAGE, " 1 8\n 2 0"), (9, ((4, 8), (0, 5)))), ("with_touched", (PAGE, ""), PAGE),
            ("with_touched", (PAGE, " 2 0\n 1 8"), bad_line(2)), ("with_touched", (PAGE, " 1 8\n 1 9"), bad_line(2)),
            ("with_touched", (PAGE, " 1 7"), bad_line(1)),
            ("with_touched", (PAGE, " 4 7"), bad_line(1)), ("with_touched", (PAGE, " 1 10"), bad_line(1)),
            ("with_touched", (PAGE, " 1 08"), bad_line(1)),
            ("with_touched", (PAGE, "1 8"), bad_line(1)), ("with_touched", (PAGE, " 1 8\n"), bad_line(2)),
            ("with_touched", (PAGE, " 1"), bad_line(1)),
            ("with_touched", (PAGE, " 1 8 9"), bad_line(1)), ("with_touched", (PAGE, "\n 1 8"), bad_line(1)),
            ("with_touched", (PAGE, " -1 8"), bad_line(1)),
            ("with_touched", (PAGE, " 1 8\n 3 -"), bad_line(2)),
            ("with_touched", (PAGE, " 0 0\n 1 0\n 2 0\n 3 0"), (9, ((0, 0), (0, 0)))),
            ("with_touched", (PAGE, " 0 0\n 1 0\n 2 2\n 3 0"), bad_line(3)),
        )


class GuaranteesTest(unittest.TestCase):
    def test_each_reader_takes_what_is_written_and_nothing_else(self):
        for name, things in (("read_picture", PICTURES), ("read_slope", SLOPES), ("read_prices", PRICES),
                             ("read_key", KEYS)):
            begins, write = READERS[name]
            for thing in things:
                text = write(thing)
                self.assertEqual(outcome(name, (text,)), thing)
                for other in sorted(set(near_texts(text))):
                    told = outcome(name, (other,))
                    if isinstance(told, Raises):
                        self.assertEqual(told, expected_of(begins, other, None), other)
                    else:
                        self.assertIs(expected_of(begins, other, True), True, other)
                        self.assertEqual(write(told), other)

    def test_cases(self):
        for p, case in CASES:
            text = case_text(case)
            self.assertEqual(read_case(p, text), case)
            for other in sorted(set(near_texts(text))):
                told = outcome("read_case", (p, other))
                if isinstance(told, Raises):
                    self.assertEqual(told, expected_of(begins_case(p), other, None), other)
                else:
                    self.assertIs(expected_of(begins_case(p), other, True), True, other)
                    self.assertEqual(case_text(told), other)

    def test_each_beginning(self):
        for write, read, things in ((picture_text, read_picture, PICTURES), (slope_text, read_slope, SLOPES),
                                    (prices_text, read_prices, PRICES), (key_text, read_key, KEYS)):
            for thing in things:
                lines = write(thing).split("\n")
                for number in range(2, len(lines) + 1):
                    part = "\n".join(lines[:number])
                    self.assertEqual(write(read(part)), part)

    def test_cases_of_tasks(self):
        for number, (picture, prices, key) in enumerate(brute.small_tasks(4)):
            messages = brute.rows_of(key[0], key[1])
            case = case_of(picture, prices, key, messages[number % len(messages)])
            self.assertEqual(read_case(key[0], case_text(case)), case)
            self.assertEqual(read_picture(picture_text(picture)), picture)
            self.assertEqual(read_prices(prices_text(prices)), prices)
            self.assertEqual(read_key(key_text(key)), key)

    def test_many_cells(self):
        for p, many in ((2, 12), (3, 7), (5, 0)):
            key, picture = brute.mixed_key(p, many, 64, p), brute.mixed_picture(255, 8, 8, p)
            prices, other = brute.mixed(p, 64, (None, 0, 1000, 7)), brute.mixed_picture(255, 8, 8, p + 1)
            self.assertEqual(read_key(key_text(key)), key)
            self.assertEqual(read_prices(prices_text(prices)), prices)
            self.assertEqual(read_picture(picture_text(picture)), picture)
            self.assertEqual(with_touched(picture, touched_text(picture, other)), other)

    def test_touched_texts(self):
        for one, other in itertools.product(list(brute.pictures_of(4, 1, 3))[::4], repeat=2):
            text = touched_text(one, other)
            self.assertEqual(with_touched(one, text), other)
            self.assertEqual(len(text.split("\n")) if text else 0, len(brute.touched_between(one, other)))
        for text in (" 1 8\n 2 0", " 0 0", " 0 9\n 1 0\n 3 4"):
            for near in sorted(set(near_texts(text))):
                told = outcome("with_touched", (PAGE, near))
                if not isinstance(told, Raises):
                    self.assertEqual(touched_text(PAGE, told), near)
                    continue
                lines = near.split("\n")
                ahead = "\n".join(lines[:told.values["number"] - 1])
                self.assertEqual(touched_text(PAGE, with_touched(PAGE, ahead)), ahead)
                line = re.fullmatch(f" ({NUMBER}) ({NUMBER})", lines[told.values["number"] - 1])
                cells = [int(own.split()[0]) for own in lines[:told.values["number"] - 1]]
                self.assertTrue(not line or int(line[1]) > 3 or int(line[2]) > 9
                                or int(line[1]) <= max(cells, default=-1)
                                or int(line[2]) == (4, 7, 2, 5)[int(line[1])], near)


if __name__ == "__main__":
    unittest.main()
