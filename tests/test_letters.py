"""[20]: texts in SHEETS, and ALBUMS that hide them."""

import itertools
import unittest

from drycells.letters import (
    album_bar, album_hidden, album_text, album_without, digits_text, is_album_bar, is_sheet, most_signs, rows_needed,
    sheet_faults, sheet_near, sheet_of, sheet_text, sheet_with, text_digits,
)
from tests import brute
from tests.checks import Raises, check_calls, check_raises_of_things, check_things, outcome, same

UNFIT, NO_PAPER, TOO_MANY = Raises("Unfit"), Raises("NoPaper"), Raises("TooMany")
FIGURES = {2: 7, 3: 5, 5: 3}
SIGNS = "".join(map(chr, range(32, 127))).replace(chr(37), "")
HI = ((0, 0, 2, 3), (2, 4, 1, 3), (2, 4, 2, 2), (1, 2, 0, 2))
BENT = HI[:1] + ((3, 4, 1, 3),) + HI[2:]
PLAIN, EVEN = (9, ((5, 5), (5, 5))), (1, 1, 1, 1)
EACH = (5, 4, ((1, 0, 0, 0), (0, 1, 0, 0), (0, 0, 1, 0), (0, 0, 0, 1)))
ALBUM = ((PLAIN,) * 4, (EVEN,) * 4, EACH)
SHUT = (EVEN, (None,) * 4, EVEN, EVEN)
WIDE = (2, 10, ((1,) * 10,) * 2)
WIDE_ALBUM = (((4, ((1, 2),)),) * 2, ((1, 1),) * 2, WIDE)
# What is no ALBUM for "hi".
NO_ALBUMS = (
    ((PLAIN,) * 3, (EVEN,) * 4, EACH), ((PLAIN,) * 4, (EVEN,) * 3, EACH), ((PLAIN,) * 5, (EVEN,) * 5, EACH),
    ((), (), EACH),
    (9, (EVEN,) * 4, EACH), (None, (EVEN,) * 4, EACH), ((PLAIN,) * 4, None, EACH), ((PLAIN,) * 4, 9, EACH),
    ((PLAIN,) * 4, (EVEN,) * 4, 9), ((PLAIN,) * 4, (EVEN,) * 4, None),
    ((PLAIN,) * 3 + ((9, ((5, 5),)),), (EVEN,) * 4, EACH),
    ((PLAIN,) * 4, (EVEN,) * 3 + ((1, 1),), EACH), ((PLAIN,) * 4, (EVEN,) * 4, (5, 4, EACH[2][:3])),
    ((PLAIN,) * 3 + (9,), (EVEN,) * 4, EACH), ((PLAIN,) * 4, (EVEN,) * 3 + (None,), EACH),
    ((PLAIN,) * 4, (EVEN,) * 4, (5, 1, ((1,),) * 4)), ((PLAIN,) * 4, (EVEN,) * 4, (5, 0, ((),) * 4)),
    ((PLAIN,) * 4, (EVEN,) * 4, (2, 2, ((1, 0),) * 4)),
)


def digits_of(p, text):
    """The DIGITS of all signs, as the document tells it."""
    return tuple(SIGNS.index(sign) // p ** power % p for sign in text for power in range(FIGURES[p] - 1, -1, -1))


def sheet_by_words(p, many, text):
    """The SHEET of text, as the document tells it; None if it has too many signs."""
    if len(text) >= p ** (many - 1):
        return None
    own = [tuple(len(text) // p ** power % p for power in range(many - 2, -1, -1))]
    signs = list(digits_of(p, text))
    while signs:
        part, signs = signs[:many - 1], signs[many - 1:]
        own.append(tuple(part) + (0,) * (many - 1 - len(part)))
    rows = [row + (-sum(row) % p,) for row in own]
    return tuple(rows) + (tuple(-sum(row[place] for row in rows) % p for place in range(many)),)


def is_sheet_by_words(p, table):
    return all(sum(row) % p == 0 for row in table) and all(sum(digits) % p == 0 for digits in zip(*table))


def tables_of(p, rows, many):
    """All TABLES of so many ROWS and DIGITS."""
    return list(itertools.product(brute.rows_of(p, many), repeat=rows))


def apart(one, other):
    """How many DIGITS are unlike."""
    return sum(left != right for near, far in zip(one, other) for left, right in zip(near, far))


def altered(p, table, row, place, more):
    """The table with one DIGIT altered."""
    digits = table[row]
    return table[:row] + (digits[:place] + ((digits[place] + more) % p,) + digits[place + 1:],) + table[row + 1:]


def with_row(table, row, digits):
    return table[:row] + (digits,) + table[row + 1:]


class ThingsTest(unittest.TestCase):
    def test_is_sheet(self):
        wrong = (
            BENT, HI[:3], ((),), ((0,),), ((0,), (0,)), (HI[0], HI[1][:3], HI[2], HI[3]), HI[0], (), ((1, 4, 0, 0),),
            ((0, 0, 2, 3), (0, 0, 3, 3)), ((0, 0, 0, 5),), ((0, 0, 0, -5),), ((1, 1), (4, 4)),
        )
        right = (HI, ((0, 0),), ((0, 0, 0),) * 3, ((1, 4), (4, 1)), ((2, 3), (3, 2)))
        check_things(self, "is_sheet", (5,), right, wrong,
                     judge=lambda own: is_table(5, own) and is_sheet_by_words(5, own))
        check_things(self, "is_sheet", (2,), (((1, 1), (1, 1)), ((1, 1, 0), (0, 1, 1), (1, 0, 1))),
                     (((1, 1), (1, 0)), ((2, 2),)))
        check_things(self, "is_sheet", (3,), (((1, 1, 1), (2, 2, 2)), ((1, 2), (2, 1))), (((1, 1), (2, 2)), ((1, 2),)),
                     judge=lambda own: is_table(3, own) and is_sheet_by_words(3, own))

    def test_is_album_bar(self):
        task = (ALBUM[0], SHUT, EACH, "hi")
        own = tuple(row for row in brute.rows_of(5, 4) if brute.product_of(5, row, HI[1]) != 0)
        self.assertEqual(len(own), 500)
        right = ((1, own[0]), (1, own[77]))
        wrong = ((0, own[0]), (1, (0, 0, 0, 0)), (1, own[0], 0), (1,), own[0], (4, own[0]), (-3, own[0]),
                 (1, own[0][:3]))
        check_things(self, "is_album_bar", task, right, wrong,
                     judge=lambda told: any(same(told, (1, row)) for row in own))
        check_things(self, "is_album_bar", ALBUM + ("hi",), (), right + wrong)

    def test_errors_whatever_thing_is(self):
        for album in NO_ALBUMS:
            check_raises_of_things(self, "is_album_bar", album + ("hi",), UNFIT)
        for text in ("hiho", "", "h" * 125, 9, None):
            check_raises_of_things(self, "is_album_bar", ALBUM + (text,), UNFIT)
        check_raises_of_things(self, "is_album_bar", WIDE_ALBUM + ("",), TOO_MANY)
        check_raises_of_things(self, "is_album_bar", WIDE_ALBUM + ("a",), UNFIT)


def is_table(p, own):
    return (isinstance(own, tuple) and own != () and all(isinstance(row, tuple) and len(row) > 1 for row in own)
            and len(set(map(len, own))) == 1
            and all(type(digit) is int and 0 <= digit < p for row in own for digit in row))


class CallsTest(unittest.TestCase):
    def test_digits(self):
        check_calls(
            self, ("text_digits", (5, "hi"), (2, 4, 1, 2, 4, 2)), ("text_digits", (2, ""), ()),
            ("text_digits", (2, " "), (0,) * 7),
            ("text_digits", (3, "~"), (1, 0, 1, 1, 0)), ("text_digits", (2, "&"), (0, 0, 0, 0, 1, 0, 1)),
            ("text_digits", (2, "$"), (0, 0, 0, 0, 1, 0, 0)), ("digits_text", (5, (2, 4, 1, 2, 4, 2)), "hi"),
            ("digits_text", (3, ()), ""), ("digits_text", (2, (0,) * 14), "  "),
            ("digits_text", (3, (1, 0, 1, 1, 0)), "~"),
            ("digits_text", (3, (1, 0, 1, 1, 1)), UNFIT), ("digits_text", (2, (1, 0, 1, 1, 1, 0, 1)), "~"),
            ("digits_text", (2, (1, 0, 1, 1, 1, 1, 0)), UNFIT), ("digits_text", (5, (3, 3, 3)), "~"),
            ("digits_text", (5, (3, 3, 4)), UNFIT),
            ("digits_text", (5, (2, 4)), UNFIT), ("digits_text", (5, (2, 4, 1, 2)), UNFIT),
            ("digits_text", (3, (0,) * 6), UNFIT),
            ("digits_text", (2, (0,) * 6), UNFIT), ("digits_text", (5, 9), UNFIT), ("digits_text", (5, None), UNFIT),
            ("digits_text", (5, (0, 0, 5)), UNFIT), ("digits_text", (5, (0, 0, -1)), UNFIT),
        )
        for p in FIGURES:
            self.assertEqual(text_digits(p, SIGNS), digits_of(p, SIGNS))
            self.assertEqual(digits_text(p, digits_of(p, SIGNS)), SIGNS)
            for number in range(p ** FIGURES[p]):
                row = tuple(number // p ** power % p for power in range(FIGURES[p] - 1, -1, -1))
                self.assertEqual(outcome("digits_text", (p, row)), SIGNS[number] if number < 94 else UNFIT)

    def test_sheets(self):
        short = ((0, 0), (0, 0))
        check_calls(
            self, ("sheet_of", (5, 4, "hi"), HI), ("sheet_of", (2, 2, ""), short),
            ("sheet_of", (2, 2, "a"), sheet_by_words(2, 2, "a")),
            ("sheet_of", (2, 2, "ab"), UNFIT), ("sheet_of", (5, 4, ""), ((0,) * 4,) * 2),
            ("sheet_of", (3, 2, "ab"), sheet_by_words(3, 2, "ab")),
            ("sheet_of", (3, 2, "abc"), UNFIT), ("sheet_of", (5, 4, "a" * 124), sheet_by_words(5, 4, "a" * 124)),
            ("sheet_of", (5, 4, "a" * 125), UNFIT), ("sheet_of", (5, 12, SIGNS), sheet_by_words(5, 12, SIGNS)),
            ("sheet_of", (5, 1, ""), UNFIT), ("sheet_of", (5, 4, 9), UNFIT), ("sheet_of", (5, 4, None), UNFIT),
            ("sheet_text", (5, HI), "hi"), ("sheet_text", (2, short), ""), ("sheet_text", (5, BENT), UNFIT),
            ("sheet_text", (2, ((0, 0),)), UNFIT), ("sheet_text", (2, ((0, 0),) * 3), UNFIT),
            ("sheet_text", (2, ((1, 1), (1, 1))), UNFIT),
            ("sheet_text", (5, 9), UNFIT), ("sheet_text", (5, None), UNFIT), ("sheet_text", (5, ()), UNFIT),
            ("sheet_text", (5, (9,)), UNFIT),
            ("sheet_text", (5, ((0, 0, 1, 4), (3, 3, 4, 0), (2, 2, 0, 1))), UNFIT),
            ("sheet_text", (5, ((0, 0, 1, 4), (3, 3, 3, 1), (2, 2, 1, 0))), "~"),
            ("sheet_text", (5, ((0, 0, 2, 3), (3, 3, 3, 1), (2, 2, 0, 1))), UNFIT),
            # One sign and what fills up: it must be 0 in a SHEET of a text.
            ("sheet_text", (3, sheet_by_words(3, 4, "a")), "a"),
            ("sheet_text", (3, altered_filler()), UNFIT),
        )

    def test_faults_and_what_is_near(self):
        two = BENT[:2] + ((2, 0, 2, 2),) + HI[3:]
        check_calls(
            self, ("sheet_faults", (5, HI), ((), ())), ("sheet_faults", (5, BENT), ((1,), (0,))),
            ("sheet_faults", (5, two), ((1, 2), (0, 1))),
            ("sheet_faults", (2, ((1, 0), (1, 0))), ((0, 1), ())), ("sheet_faults", (3, ((1, 2),)), ((), (0, 1))),
            ("sheet_near", (5, HI), HI), ("sheet_near", (5, BENT), HI), ("sheet_near", (5, two), NO_PAPER),
            ("sheet_near", (5, HI[:2] + ((2, 4, 3, 1),) + HI[3:]), NO_PAPER),
            ("sheet_near", (2, ((1, 0), (1, 0))), NO_PAPER),
            ("sheet_near", (3, ((0, 2),)), ((0, 0),)), ("sheet_near", (3, ((1, 2),)), NO_PAPER),
            ("sheet_near", (2, ((1, 0), (0, 0))), ((0, 0), (0, 0))),
            ("sheet_near", (2, ((1, 1), (0, 1))), ((1, 1), (1, 1))),
            ("sheet_with", (5, BENT, 1), HI), ("sheet_with", (5, BENT, 0), NO_PAPER), ("sheet_with", (5, HI, 3), HI),
            ("sheet_with", (5, HI, 4), UNFIT), ("sheet_with", (5, HI, -1), UNFIT), ("sheet_with", (5, HI, None), UNFIT),
            ("sheet_with", (5, ((1, 2, 3),), 0), ((0, 0, 0),)), ("sheet_with", (5, BENT, 7), UNFIT),
            ("sheet_with", (2, ((1, 1), (0, 1)), 1), ((1, 1), (1, 1))),
            ("sheet_with", (2, ((1, 0), (0, 1)), 1), NO_PAPER),
        )

    def test_sizes(self):
        check_calls(
            self, ("rows_needed", (5, 4, 2), 4), ("rows_needed", (5, 4, 0), 2), ("rows_needed", (2, 8, 1), 3),
            ("rows_needed", (2, 8, 3), 5),
            ("rows_needed", (2, 2, 1), 9), ("rows_needed", (2, 2, 2), UNFIT), ("rows_needed", (5, 4, 124), 126),
            ("rows_needed", (5, 4, 125), UNFIT),
            ("rows_needed", (3, 3, 1), 5), ("rows_needed", (3, 12, 5), 5), ("rows_needed", (5, 12, 0), 2),
            ("rows_needed", (5, 1, 0), UNFIT),
            ("most_signs", (2, 8, 5), 3), ("most_signs", (2, 8, 2), 0), ("most_signs", (2, 8, 1), NO_PAPER),
            ("most_signs", (2, 8, 0), NO_PAPER),
            ("most_signs", (2, 2, 99), 1), ("most_signs", (2, 2, 8), 0), ("most_signs", (2, 2, 9), 1),
            ("most_signs", (5, 4, 10 ** 6), 124),
            ("most_signs", (5, 4, 4), 2), ("most_signs", (3, 12, 5), 6),
        )
        for p, many in itertools.product((2, 3, 5), (2, 3, 4, 7)):
            most = p ** (many - 1) - 1
            for signs in range(min(most + 3, 40)):
                sheet = sheet_by_words(p, many, "x" * signs)
                self.assertEqual(outcome("rows_needed", (p, many, signs)), UNFIT if sheet is None else len(sheet))
            for rows in range(2, 30):
                told = most_signs(p, many, rows)
                self.assertLessEqual(len(sheet_by_words(p, many, "x" * told)), rows)
                self.assertTrue(told == most or len(sheet_by_words(p, many, "x" * (told + 1))) > rows)

    def test_albums(self):
        told = album_hidden(*ALBUM, "hi")
        bent = ((9, ((6, 5), (7, 3))),) + told[1:]
        check_calls(
            self, ("album_hidden", ALBUM + ("hi",), tuple(outcome("cheapest", (PLAIN, EVEN, EACH, row)) for row in HI)),
            ("album_hidden", ((PLAIN,) * 2, (EVEN,) * 2, EACH, ""), (PLAIN, PLAIN)),
            ("album_hidden", ALBUM + ("ho!",), UNFIT),
            ("album_hidden", (ALBUM[0], SHUT, EACH, "hi"), NO_PAPER), ("album_bar", ALBUM + ("hi",), NO_PAPER),
            ("album_hidden", WIDE_ALBUM + ("",), TOO_MANY), ("album_hidden", WIDE_ALBUM + ("a",), UNFIT),
            ("album_bar", WIDE_ALBUM + ("",), TOO_MANY),
            ("album_text", (told, EACH), "hi"), ("album_text", (bent, EACH), "hi"),
            ("album_text", (bent[:2] + bent[:1] + bent[3:], EACH), NO_PAPER),
            ("album_text", ((PLAIN,) * 2, EACH), ""), ("album_text", ((PLAIN,) * 3, EACH), UNFIT),
            ("album_text", ((PLAIN,), EACH), UNFIT),
            ("album_text", ((), EACH), UNFIT), ("album_text", (9, EACH), UNFIT), ("album_text", (told, 9), UNFIT),
            ("album_text", (told[:3] + (9,), EACH), UNFIT),
            ("album_text", (told[:3] + ((9, ((5,),)),), EACH), UNFIT),
            ("album_text", (told, (5, 1, ((1,),) * 4)), UNFIT),
            ("album_without", ((PLAIN,) + told[1:], EACH, 0), "hi"),
            ("album_without", (told[:3] + ((4, ((1,),)),), EACH, 3), "hi"),
            ("album_without", (told[:3] + (9,), EACH, 3), "hi"),
            ("album_without", (told[:3] + ((4, ((1,),)),), EACH, 2), UNFIT),
            ("album_without", (told, EACH, 4), UNFIT), ("album_without", (told, EACH, -1), UNFIT),
            ("album_without", (told, EACH, None), UNFIT),
            ("album_without", (bent, EACH, 0), "hi"), ("album_without", (bent, EACH, 1), NO_PAPER),
            ("album_without", ((PLAIN,), EACH, 0), UNFIT),
            ("album_without", ((PLAIN,) * 3, EACH, 1), UNFIT), ("album_without", ((), EACH, 0), UNFIT),
            ("album_without", (9, EACH, 0), UNFIT),
        )
        number, word = album_bar(ALBUM[0], SHUT, EACH, "hi")
        self.assertEqual(number, 1)
        self.assertNotEqual(brute.product_of(5, word, HI[1]), 0)
        for album in NO_ALBUMS:
            check_calls(self, ("album_hidden", album + ("hi",), UNFIT), ("album_bar", album + ("hi",), UNFIT))
        for text in ("hiho", "h" * 125, 9, None):
            check_calls(self, ("album_hidden", ALBUM + (text,), UNFIT), ("album_bar", ALBUM + (text,), UNFIT))
        # The errors of what fits come ahead of those of too many ROOMS, these ahead of what can't be hidden.
        shut = (WIDE_ALBUM[0], ((None, None),) * 2, WIDE)
        check_calls(self, ("album_hidden", shut + ("",), TOO_MANY),
                    ("album_hidden", shut[:1] + (((1,), (1, 1)), WIDE, ""), UNFIT))


def altered_filler():
    """A SHEET that is as that of a text but for one of the DIGITS that fill up."""
    own = [row[:-1] for row in sheet_by_words(3, 4, "a")[:-1]]
    own[-1] = own[-1][:-1] + (2,)
    rows = [row + (-sum(row) % 3,) for row in own]
    return tuple(rows) + (tuple(-sum(row[place] for row in rows) % 3 for place in range(4)),)


TEXTS = ("", "a", "~", " ", "hi", "Zz9", "  ", "{|}", "!\"#$&'", "The cat sat.")


class GuaranteesTest(unittest.TestCase):
    def test_sheets_of_texts(self):
        for p, many in itertools.product((2, 3, 5), (2, 3, 4, 5, 8, 12)):
            for text in TEXTS + (SIGNS, SIGNS[::-1] * 2):
                sheet = sheet_by_words(p, many, text)
                if sheet is None:
                    self.assertEqual(outcome("sheet_of", (p, many, text)), UNFIT)
                    continue
                self.assertEqual(sheet_of(p, many, text), sheet)
                self.assertIs(is_sheet(p, sheet), True)
                self.assertEqual(sheet_text(p, sheet), text)
                self.assertEqual(rows_needed(p, many, len(text)), len(sheet))
                self.assertLessEqual(len(text), most_signs(p, many, len(sheet)))

    def test_a_sheet_is_of_one_text_at_most(self):
        texts = {1: [sign for sign in SIGNS], 0: [""]}
        for p, many in ((2, 2), (3, 2), (3, 6), (5, 3)):
            sheets = {sheet_by_words(p, many, text): text for size in texts for text in texts[size]}
            self.assertEqual(len(sheets), 95)
            for sheet, text in sheets.items():
                self.assertEqual(sheet_text(p, sheet), text)
        for p, rows, many in ((2, 2, 3), (2, 3, 3), (3, 2, 2), (3, 3, 2), (2, 2, 8), (5, 2, 2)):
            texts = {sheet_by_words(p, many, text): text for text in ("",) + tuple(SIGNS)}
            for table in tables_of(p, rows, many) if p ** (rows * many) < 5000 else []:
                self.assertEqual(outcome("sheet_text", (p, table)), texts.get(table, UNFIT))

    def test_tables_beside_all_sheets(self):
        for p, rows, many in ((2, 2, 2), (2, 3, 3), (2, 1, 3), (3, 2, 3), (3, 2, 2), (3, 3, 2), (5, 2, 2), (2, 4, 2)):
            tables = tables_of(p, rows, many)
            sheets = [table for table in tables if is_sheet_by_words(p, table)]
            self.assertEqual([table for table in tables if is_sheet(p, table)], sheets)
            for one, other in itertools.combinations(sheets, 2):
                self.assertGreaterEqual(apart(one, other), 4)
            for table in tables:
                near = [sheet for sheet in sheets if apart(sheet, table) <= 1]
                self.assertLess(len(near), 2)
                self.assertEqual(outcome("sheet_near", (p, table)), near[0] if near else NO_PAPER)
                faults = tuple(own for own in range(rows) if sum(table[own]) % p)
                places = tuple(own for own in range(many) if sum(row[own] for row in table) % p)
                self.assertEqual(sheet_faults(p, table), (faults, places))
                for row in range(rows):
                    whole = [sheet for sheet in sheets
                             if sheet[:row] + sheet[row + 1:] == table[:row] + table[row + 1:]]
                    self.assertEqual(outcome("sheet_with", (p, table, row)), whole[0] if whole else NO_PAPER)
                    self.assertLess(len(whole), 2)

    def test_altered_sheets_of_texts(self):
        for p, many, text in ((2, 4, "hi!"), (3, 5, "ab"), (5, 4, "Drycells"), (5, 2, "oak"),
                              (2, 12, "a line of text")):
            sheet = sheet_of(p, many, text)
            places = list(itertools.product(range(len(sheet)), range(many)))
            for number, (row, place) in enumerate(places):
                for more in range(1, p):
                    bent = altered(p, sheet, row, place, more)
                    self.assertEqual(sheet_near(p, bent), sheet)
                    self.assertIs(is_sheet(p, bent), False)
                    for other in places[number + 1::7]:
                        self.assertEqual(outcome("sheet_near", (p, altered(p, bent, *other, 1))), NO_PAPER)
            for row in range(len(sheet)):
                self.assertEqual(sheet_with(p, with_row(sheet, row, sheet[row - 1]), row), sheet)

    def test_albums_beside_all_rests(self):
        for p, many, text in ((2, 2, "a"), (2, 4, "hi"), (3, 2, "?"), (5, 2, "x"), (5, 3, ""), (3, 4, "ok")):
            sheet = sheet_of(p, many, text)
            for start in range(3):
                key = brute.mixed_key(p, many, many + 1, start + many)
                pictures = tuple(brute.mixed_picture(9, 1, many + 1, start * 9 + own) for own in range(len(sheet)))
                prices = tuple(brute.mixed(start + 2 * own, many + 1, (0, 1, 2, 5) if start else (None, 1, 3))
                               for own in range(len(sheet)))
                tasks = list(zip(pictures, prices, sheet))
                ways = [brute.hidings_of(picture, fees, key)[row] for picture, fees, row in tasks]
                args = (pictures, prices, key, text)
                bars = [(number, word) for number, (picture, fees, row) in enumerate(tasks)
                        for word in brute.bars_of(picture, fees, key, row)]
                self.assertNotEqual(bars == [], not all(ways))
                found = [(number, word) for number in range(len(sheet)) for word in brute.rows_of(p, many)
                         if is_album_bar(*args, (number, word))]
                self.assertEqual(found, bars)
                if bars:
                    self.assertIn(album_bar(*args), bars)
                    self.assertEqual(outcome("album_hidden", args), NO_PAPER)
                    continue
                self.assertEqual(outcome("album_bar", args), NO_PAPER)
                told = album_hidden(*args)
                for (picture, fees, _), own, found in zip(tasks, told, ways):
                    best = min((brute.price_of(picture, fees, p, way), way) for way in found)
                    self.assertEqual(own, brute.nearest_picture(picture, p, best[1]))
                self.check_album(told, key, text)

    def check_album(self, told, key, text):
        """That text is read of told, also with one DIGIT of one READING altered, or without any one PICTURE."""
        p, many, columns = key
        self.assertEqual(album_text(told, key), text)
        for number, picture in enumerate(told):
            self.assertEqual(album_without(told, key, number), text)
            self.assertEqual(album_without(told[:number] + (None,) + told[number + 1:], key, number), text)
            for row in brute.rows_of(p, len(columns)):
                other = brute.nearest_picture(picture, p, row)
                unlike = apart((brute.read(key, other),), (brute.read(key, picture),))
                if unlike < 3:
                    told_so = outcome("album_text", (told[:number] + (other,) + told[number + 1:], key))
                    self.assertEqual(told_so, text if unlike < 2 else NO_PAPER)

    def test_a_long_text(self):
        text = "".join(brute.mixed(7, 200, SIGNS))
        key = (2, 9, tuple(tuple(int(at == place // 7) for at in range(9)) for place in range(63)))
        rows = rows_needed(2, 9, 200)
        pictures = tuple(brute.mixed_picture(255, 7, 9, own) for own in range(rows))
        prices = tuple(brute.mixed(own, 63, (1, 2, 50)) for own in range(rows))
        told = album_hidden(pictures, prices, key, text)
        self.assertEqual(album_text(told, key), text)
        self.assertEqual(album_without(told, key, 11), text)
        self.assertEqual(outcome("album_bar", (pictures, prices, key, text)), NO_PAPER)


if __name__ == "__main__":
    unittest.main()
