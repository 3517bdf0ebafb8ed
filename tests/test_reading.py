"""[9]: what a PICTURE reads as."""

import itertools
import unittest

from drycells.keys import led_key, stacked, walked
from drycells.pictures import cells_in, greys, picture_of, rests, with_grey
from drycells.reading import (
    can_be_read, digit_cells, how_many_read, is_silent_word, lack, part_reading, read_cells, read_counts, reading,
    reading_behind, reading_of_rests, readings_along, rests_alike, same_reading,
)
from tests import brute
from tests.checks import Fits, Raises, check_calls, check_raises_of_things, check_things, outcome

UNFIT, NO_PAPER, TOO_MANY = Raises("Unfit"), Raises("NoPaper"), Raises("TooMany")
KEY = (2, 2, ((1, 0), (1, 1), (0, 1), (1, 0)))
THIN = (2, 2, ((1, 1), (0, 0)))
FIFTH = (5, 3, ((4, 0, 1), (3, 2, 0)))
EMPTY = (3, 0, ((), ()))
NULL = (3, 2, ((0, 0), (0, 0)))
PAGE = (5, ((3, 4), (0, 5)))
STRIP = (9, ((7,), (9,)))
# MESSAGES that are none of THIN.
NO_MESSAGES = ((1,), (1, 0, 0), (), (1, 2), (-1, 0), (0, 5))


def no_cell(number):
    return Raises("NoCell", number=number)


def small_keys():
    """All small KEYS, some of those of the greater PRIMES."""
    for p, many, size, step in ((2, 0, 2, 1), (2, 1, 3, 1), (2, 2, 2, 1), (2, 2, 3, 3), (2, 3, 2, 7), (3, 0, 1, 1),
                                (3, 1, 2, 1), (3, 2, 2, 3), (5, 1, 1, 1), (5, 1, 2, 2), (5, 2, 1, 2)):
        yield from brute.keys_of(p, many, size)[::step]


class ThingsTest(unittest.TestCase):
    def test_is_silent_word(self):
        wrong = ((1, 0), (0, 1), (0, 0), (1,), (1, 1, 0), (3, 3))
        check_things(self, "is_silent_word", (THIN, (1, 0)), ((1, 1),), wrong)
        check_things(self, "is_silent_word", (THIN, (1, 1)), (), ((1, 1), (1, 0), (0, 0)))
        check_things(self, "is_silent_word", (NULL, (2, 1)), ((1, 0), (0, 2), (1, 2)), ((1, 1), (2, 2), (0, 0)))
        check_things(self, "is_silent_word", (EMPTY, ()), (), ((), (0,)))
        check_things(self, "is_silent_word", (FIFTH, (0, 0, 1)), ((1, 1, 1), (4, 4, 4)), ((1, 1, 2), (0, 0, 1), (1, 1)))

    def test_errors_whatever_thing_is(self):
        for message in NO_MESSAGES:
            check_raises_of_things(self, "is_silent_word", (THIN, message), UNFIT)


class CallsTest(unittest.TestCase):
    def test_readings(self):
        check_calls(
            self, ("reading", (PAGE, KEY), (0, 0)), ("reading", (STRIP, FIFTH), (0, 3, 2)),
            ("reading", (STRIP, EMPTY), ()),
            ("reading", (STRIP, NULL), (0, 0)), ("reading", ((4, ((3,),)), (3, 1, ((2,),))), (0,)),
            ("lack", (STRIP, FIFTH, (0, 0, 0)), (0, 2, 3)), ("lack", (STRIP, FIFTH, (0, 3, 2)), (0, 0, 0)),
            ("lack", (STRIP, EMPTY, ()), ()), ("reading_of_rests", (FIFTH, (2, 4)), (0, 3, 2)),
            ("reading_of_rests", (EMPTY, (2, 1)), ()), ("part_reading", (STRIP, FIFTH, ()), (0, 0, 0)),
            ("part_reading", (STRIP, FIFTH, (0,)), (3, 0, 2)), ("part_reading", (STRIP, FIFTH, (1,)), (2, 3, 0)),
            ("part_reading", (STRIP, FIFTH, (0, 1)), (0, 3, 2)),
            ("readings_along", (STRIP, FIFTH), [(0, 0, 0), (3, 0, 2), (0, 3, 2)]),
            ("readings_along", (STRIP, EMPTY), [(), (), ()]),
            ("readings_along", ((4, ((1,),)), (2, 1, ((1,),))), [(0,), (1,)]),
            ("same_reading", (STRIP, (4, ((2, 4),)), FIFTH), True),
            ("same_reading", (STRIP, (9, ((8,), (9,))), FIFTH), False),
            ("same_reading", (STRIP, (9, ((0, 3),)), EMPTY), True),
        )

    def test_reading_behind(self):
        check_calls(
            self, ("reading_behind", (FIFTH, (0, 3, 2), ()), (0, 3, 2)),
            ("reading_behind", (FIFTH, (0, 3, 2), ((0, 7, 8),)), (4, 3, 3)),
            ("reading_behind", (FIFTH, (0, 3, 2), ((0, 7, 8), (0, 8, 7))), (0, 3, 2)),
            ("reading_behind", (EMPTY, (), ((1, 0, 4),)), ()),
            ("reading_behind", (FIFTH, (4, 4, 4), ((1, 255, 3), (0, 0, 5), (1, 3, 4))), (1, 2, 4)),
            ("reading_behind", (FIFTH, (0, 0, 0), ((2, 0, 1),)), no_cell(2)),
            ("reading_behind", (FIFTH, (0, 0, 0), ((-1, 0, 1),)), no_cell(-1)),
            ("reading_behind", (FIFTH, (0, 0, 0), ((0, 0, 1), (7, 0, 1), (9, 0, 1))), no_cell(7)),
            ("reading_behind", (FIFTH, (0, 0), ((2, 0, 1),)), UNFIT),
            ("reading_behind", (FIFTH, (0, 0, 5), ((9, 0, 1),)), UNFIT),
            ("reading_behind", (FIFTH, (0, 0, 0, 0), ()), UNFIT), ("reading_behind", (EMPTY, (0,), ()), UNFIT),
        )

    def test_what_does_not_go_together(self):
        for picture in ((4, ((1,),)), (4, ((1, 2, 3),)), PAGE):
            check_calls(
                self, ("reading", (picture, THIN), UNFIT), ("lack", (picture, THIN, (1, 1)), UNFIT),
                ("part_reading", (picture, THIN, (0,)), UNFIT),
                ("readings_along", (picture, THIN), UNFIT), ("same_reading", (picture, STRIP, THIN), UNFIT),
                ("same_reading", (STRIP, picture, THIN), UNFIT), ("same_reading", (picture, picture, THIN), UNFIT),
            )
        for message in NO_MESSAGES:
            for name in ("can_be_read", "rests_for", "silent_word"):
                check_calls(self, (name, (THIN, message), UNFIT))
            check_calls(
                self, ("lack", (STRIP, THIN, message), UNFIT), ("reading_behind", (THIN, message, ()), UNFIT),
                ("how_many_read", (THIN, 4, message), UNFIT),
            )
        for digits in ((1,), (1, 0, 0), (), (1, 2), (-1, 0), (0, 5)):
            check_calls(self, ("reading_of_rests", (THIN, digits), UNFIT))

    def test_cells_that_are_read(self):
        check_calls(
            self, ("read_cells", (KEY,), (0, 1, 2, 3)), ("read_cells", (NULL,), ()), ("read_cells", (EMPTY,), ()),
            ("read_cells", (FIFTH,), (0, 1)),
            ("digit_cells", (FIFTH, 0), (0, 1)), ("digit_cells", (FIFTH, 1), (1,)), ("digit_cells", (FIFTH, 2), (0,)),
            ("digit_cells", (FIFTH, 3), UNFIT), ("digit_cells", (FIFTH, -1), UNFIT), ("digit_cells", (EMPTY, 0), UNFIT),
            ("digit_cells", (NULL, 1), ()), ("digit_cells", (NULL, 2), UNFIT),
        )

    def test_what_can_be_read(self):
        check_calls(
            self, ("can_be_read", (THIN, (0, 0)), True), ("can_be_read", (THIN, (0, 1)), False),
            ("can_be_read", (EMPTY, ()), True),
            ("can_be_read", (NULL, (0, 0)), True), ("can_be_read", (NULL, (0, 1)), False),
            ("rests_for", (NULL, (2, 0)), NO_PAPER),
            ("rests_for", (THIN, (0, 1)), NO_PAPER), ("silent_word", (THIN, (1, 1)), NO_PAPER),
            ("silent_word", (EMPTY, ()), NO_PAPER),
            ("silent_word", (THIN, (0, 1)), (1, 1)), ("silent_word", (NULL, (0, 2)), Fits(lambda told: told[1] != 0)),
            ("rests_for", (EMPTY, ()), Fits(lambda told: told in brute.rows_of(3, 2))),
            ("rests_for", (KEY, (1, 1)), Fits(lambda told: brute.read_rests(KEY, told) == (1, 1))),
            ("rests_for", (FIFTH, (0, 3, 2)), (2, 4)), ("rests_alike", (KEY,), 4), ("rests_alike", (NULL,), 9),
            ("rests_alike", (EMPTY,), 9),
            ("rests_alike", (FIFTH,), 1), ("rests_alike", ((5, 1, ((0,), (3,), (4,))),), 25),
        )

    def test_counts(self):
        check_calls(
            self, ("read_counts", (EMPTY, 4), (25,)), ("read_counts", (NULL, 255), (65536,) + (0,) * 8),
            ("how_many_read", (EMPTY, 255, ()), 65536),
            ("read_counts", ((2, 1, ((1,),)), 4), (3, 2)), ("read_counts", ((3, 1, ((2,),)), 4), (2, 1, 2)),
            ("read_counts", ((5, 1, ((2,),)), 6), (2, 1, 2, 1, 1)), ("how_many_read", ((5, 1, ((2,),)), 6, (2,)), 2),
            ("how_many_read", (NULL, 9, (1, 0)), 0), ("how_many_read", (KEY, 255, (1, 0)), 2 ** 30),
        )

    def test_counts_just_at_and_above_the_bound(self):
        for p, most in ((2, 9), (3, 6), (5, 4)):
            at, above = (p, most, ((1,) * most,)), (p, most + 1, ((1,) * (most + 1),))
            counts = read_counts(at, 9)
            self.assertEqual(len(counts), p ** most)
            self.assertEqual(sum(counts), 10)
            self.assertEqual(how_many_read(at, 9, (1,) * most), counts[(p ** most - 1) // (p - 1)])
            check_calls(
                self, ("read_counts", (above, 9), TOO_MANY), ("how_many_read", (above, 9, (0,) * (most + 1)), TOO_MANY),
                ("how_many_read", (above, 9, (0,) * most), UNFIT),
                ("how_many_read", (above, 9, (p,) * (most + 1)), UNFIT),
            )

    def test_counts_of_64_cells(self):
        key = (3, 6, tuple(tuple((at * at + place * at + place) % 3 for place in range(6)) for at in range(64)))
        counts = read_counts(key, 255)
        self.assertEqual(sum(counts), 256 ** 64)
        self.assertEqual([count > 0 for count in counts], [can_be_read(key, own) for own in brute.rows_of(3, 6)])


class GuaranteesTest(unittest.TestCase):
    def test_readings_of_all_small_pictures(self):
        for key in small_keys():
            p, many, columns = key
            size = len(columns)
            for picture in list(brute.pictures_of(4, 1, size))[::5]:
                told = reading(picture, key)
                self.assertEqual(told, brute.read(key, picture))
                self.assertEqual(reading_of_rests(key, rests(picture, p)), told)
                along = readings_along(picture, key)
                parts = [part_reading(picture, key, tuple(range(end))) for end in range(size + 1)]
                self.assertEqual(along, parts)
                self.assertEqual((along[0], along[-1]), ((0,) * many, told))
                for end in range(size + 1):
                    both = [along[end], part_reading(picture, key, tuple(range(end, size)))]
                    self.assertEqual(brute.sum_by(p, many, both, (1, 1)), told)
                for message in brute.rows_of(p, many)[:6]:
                    self.assertEqual(brute.sum_by(p, many, (told, lack(picture, key, message)), (1, 1)), message)

    def test_a_reading_hangs_on_the_rests_of_read_cells_alone(self):
        for key in small_keys():
            p, many, columns = key
            told = read_cells(key)
            self.assertEqual(told, tuple(cell for cell, column in enumerate(columns) if any(column)))
            for place in range(many):
                marked = tuple(cell for cell, column in enumerate(columns) if column[place])
                self.assertEqual(digit_cells(key, place), marked)
            picture = (9, tuple((3 * cell + 1,) for cell in range(len(columns))))
            for cell, grey in itertools.product(range(len(columns)), range(10)):
                other = with_grey(picture, cell, grey)
                alike = cell not in told or (grey - greys(picture)[cell]) % p == 0
                self.assertIs(same_reading(picture, other, key), alike)
                touch = (cell, greys(picture)[cell], grey)
                self.assertEqual(reading_behind(key, reading(picture, key), (touch,)), reading(other, key))

    def test_reading_behind_touches_one_after_the_other(self):
        for picture, key in ((PAGE, KEY), (STRIP, FIFTH), (STRIP, THIN), (STRIP, EMPTY), (STRIP, NULL)):
            touches, now = [], picture
            for step in range(12):
                cell = step * 5 % cells_in(picture)
                grey = (step * step + 3) % (picture[0] + 1)
                touches.append((cell, greys(now)[cell], grey))
                now = with_grey(now, cell, grey)
                self.assertEqual(reading_behind(key, reading(picture, key), tuple(touches)), reading(now, key))

    def test_a_message_can_be_read_or_a_silent_word_is_told_never_both(self):
        for key in small_keys():
            p, many, columns = key
            words = brute.rows_of(p, many)[1:]
            ways = {message: [] for message in brute.rows_of(p, many)}
            for digits in brute.rows_of(p, len(columns)):
                ways[brute.read_rests(key, digits)].append(digits)
            for message, found in ways.items():
                self.assertIs(can_be_read(key, message), bool(found))
                silent = [word for word in words if brute.product_of(p, word, message)
                          and not any(brute.product_of(p, word, column) for column in columns)]
                known = [word for word in brute.rows_of(p, many) if is_silent_word(key, message, word)]
                self.assertEqual(known, silent)
                rests_told, word_told = outcome("rests_for", (key, message)), outcome("silent_word", (key, message))
                if found:
                    self.assertIn(rests_told, found)
                    self.assertEqual((word_told, silent), (NO_PAPER, []))
                    self.assertEqual(rests_alike(key), len(found))
                else:
                    self.assertIn(word_told, silent)
                    self.assertEqual(rests_told, NO_PAPER)

    def test_counts_are_those_of_all_pictures_counted(self):
        for key in small_keys():
            p, many, columns = key
            for top in (4, 5):
                if (top + 1) ** len(columns) > 130 and top == 5:
                    continue
                counts = {message: 0 for message in brute.rows_of(p, many)}
                for picture in brute.pictures_of(top, len(columns), 1):
                    counts[brute.read(key, picture)] += 1
                self.assertEqual(read_counts(key, top), tuple(counts.values()))
                for message, count in counts.items():
                    self.assertEqual(how_many_read(key, top, message), count)

    def test_each_message_is_that_of_equally_many_pictures_if_p_divides_one_more_than_the_top(self):
        for key in small_keys():
            top = {2: 5, 3: 8, 5: 9}[key[0]]
            counts = {count for count in read_counts(key, top) if count}
            alike = rests_alike(key) * ((top + 1) // key[0]) ** len(key[2])
            self.assertEqual(counts, {alike})

    def test_stacked_led_and_walked_keys(self):
        for key in small_keys():
            p, many, columns = key
            size = len(columns)
            other = (p, 1, tuple(((cell + 1) % p,) for cell in range(size)))
            rows = brute.rows_of(p, many)[:5]
            order = tuple(range(1, size)) + (0,)
            for picture in list(brute.pictures_of(4, 1, size))[::7]:
                told = reading(picture, key)
                self.assertEqual(reading(picture, stacked(key, other)), told + reading(picture, other))
                products = tuple(brute.product_of(p, row, told) for row in rows)
                self.assertEqual(reading(picture, led_key(key, rows)), products)
                moved = picture_of(4, size, [greys(picture)[cell] for cell in order])
                self.assertEqual(reading(moved, walked(key, order)), told)


class ListsTest(unittest.TestCase):
    def test_each_list_is_new(self):
        told = readings_along(PAGE, KEY)
        told[0] = told[-1] = None
        self.assertEqual(readings_along(PAGE, KEY), [(0, 0), (1, 0), (1, 0), (1, 0), (0, 0)])


if __name__ == "__main__":
    unittest.main()
