"""[8]: KEYS and BANDS."""

import itertools
import unittest

from drycells.keys import (
    alike_keys, band_for, band_key, is_key, is_parting_picture, is_untold, key_by_rows, key_rows, led_by, led_key,
    marked_cells, stacked, tells, unstacked, walked, walked_back, without_cells,
)
from tests import brute
from tests.checks import JUNK, Fits, Raises, check_calls, check_raises_of_things, check_things, check_told, outcome

UNFIT, NO_PAPER = Raises("Unfit"), Raises("NoPaper")
KEY = (2, 2, ((1, 0), (1, 1), (0, 1), (1, 0)))
LESSER = (2, 1, ((1,), (0,), (1,), (1,)))
THIRD = (3, 2, ((1, 2), (0, 0), (2, 1), (0, 2)))
FIFTH = (5, 3, ((4, 0, 1), (3, 2, 0)))
EMPTY = (2, 0, ((), (), ()))
PAIRS = ("alike_keys", "parting_picture", "stacked", "tells", "led_by", "untold")


def small_keys(size):
    """All small KEYS of each PRIME, with so many columns."""
    for p, many in ((2, 0), (2, 1), (2, 2), (3, 0), (3, 1), (5, 1)):
        yield from brute.keys_of(p, many, size)


def more_keys():
    """KEYS of each PRIME with more rows and columns."""
    yield from brute.keys_of(2, 2, 3)
    yield from brute.keys_of(3, 2, 2)[::2]
    yield from brute.keys_of(5, 2, 2)[::17]
    yield from (KEY, LESSER, THIRD, FIFTH, EMPTY, band_key((5, 4, ((1, 2, 3, 4, 1, 2), (4, 0, 0, 2, 2, 1)))))


class ThingsTest(unittest.TestCase):
    def test_is_key(self):
        right = (KEY, LESSER, THIRD, FIFTH, EMPTY, (5, 0, ((),)), (3, 20, ((2,) * 20,) * 99))
        wrong = (
            (2, 2, ()), (4, 1, ((0,),)), (7, 1, ((0,),)), (2, 1, ((2,),)), (2, 2, ((1,),)), (2, 1, ((1,), (1, 1))),
            (2, -1, ()),
            (2, -1, ((),)), (2, 1), (2, 1, ((1,),), 0), (1, 1, ((0,),)), (2, 0, ((0,),)), (2, 1, (0,)),
            (2, 1, ((-1,),)),
            (2, 1, None), (2, None, ((),)),
        )
        check_things(self, "is_key", (), right, wrong)

    def test_is_band(self):
        right = ((2, 1, ((1,),)), (2, 3, ((1, 0), (1, 1))), (5, 4, ((0, 4, 0),) * 3), (3, 1, ((2,) * 9,) * 9))
        wrong = (
            (2, 0, ((1,),)), (2, 1, ((),)), (2, 1, ()), (2, 1, ((2,),)), (2, 1, ((1,), (1, 1))), (4, 1, ((1,),)),
            (2, 1), (2, -1, ((1,),)),
            (2, 1, ((1,),), 1), (2, 1, (1,)), (3, 2, ((1, 1), (1,))), (2, 1, ((1,), ())), (2, 1, None),
            (2, None, ((1,),)), (2, 1, (None,)),
        )
        check_things(self, "is_band", (), right, wrong)

    def test_is_message_and_is_word(self):
        wrong = ((1,), (1, 0, 0), (2, 0), (0, -1), (None, 1))
        check_things(self, "is_message", (KEY,), ((1, 0), (0, 0), (1, 1)), wrong)
        check_things(self, "is_word", (KEY,), ((1, 0), (0, 1), (1, 1)), wrong + ((0, 0),))
        check_things(self, "is_message", (EMPTY,), (), ((0,),), fine=((),))
        check_things(self, "is_word", (EMPTY,), (), ((), (0,)))
        wrong = ((5, 0, 0), (4, 4))
        check_things(self, "is_message", (FIFTH,), ((4, 0, 3), (0, 0, 0)), wrong, fine=((2, 1, 0),))
        check_things(self, "is_word", (FIFTH,), ((4, 0, 3), (0, 0, 1)), wrong + ((0, 0, 0),), fine=((2, 1, 0),))

    def test_is_parting_picture(self):
        two, three = (2, 1, ((1,), (0,))), (3, 1, ((1,), (0,)))
        right = ((4, ((2, 0),)), (255, ((4,), (9,))), (9, ((3, 1),)))
        wrong = (
            (4, ((1, 2),)), (4, ((0, 0),)), (4, ((2,),)), (4, ((2, 0, 0),)), (3, ((2, 0),)), (4, ((2, 5),)), ((2, 0),),
        )
        check_things(self, "is_parting_picture", (two, three), right, wrong)
        check_things(self, "is_parting_picture", (two, two), (), right + wrong)
        check_things(self, "is_parting_picture", (two, (2, 2, ((1, 0), (0, 0)))), ((4, ((0, 0),)),), ((4, ((0,),)),))
        check_things(self, "is_parting_picture", ((2, 1, ((0,), (0,))), (5, 1, ((0,), (0,)))), (), right)

    def test_is_untold(self):
        one, other = (3, 1, ((1,), (1,))), (3, 1, ((0,), (1,)))
        right = (((4, ((0, 0),)), (4, ((1, 2),))), ((9, ((3,), (4,))), (9, ((8,), (2,)))))
        wrong = (
            ((4, ((0, 0),)), (4, ((1, 1),))), ((4, ((0, 0),)), (5, ((1, 2),))), ((4, ((0, 0),)), (4, ((1,), (2,)))),
            ((4, ((0, 0),)), (4, ((3, 0),))), ((4, ((0, 0),)),), ((4, ((0, 0),)),) * 2, ((4, ((0,),)), (4, ((1,),))),
            ((4, ((0, 0),)), (4, ((1, 2),)), (4, ((0, 0),))), (4, ((1, 2),)), ((4, ((0, 0, 0),)), (4, ((1, 2, 0),))),
        )
        check_things(self, "is_untold", (one, other), right, wrong)
        check_things(self, "is_untold", (one, one), (), right + wrong)

    def test_errors_whatever_thing_is(self):
        for name in ("is_parting_picture", "is_untold"):
            check_raises_of_things(self, name, (KEY, FIFTH), UNFIT)
            check_raises_of_things(self, name, (EMPTY, KEY), UNFIT)
        check_raises_of_things(self, "is_untold", (KEY, THIRD), UNFIT)
        for thing in JUNK:
            check_told(self, "is_parting_picture", (KEY, THIRD), thing, False)


class CallsTest(unittest.TestCase):
    def test_bands(self):
        check_calls(
            self, ("band_key", ((2, 1, ((1, 1, 1),)),), (2, 1, ((1,),))),
            ("band_key", ((3, 2, ((1, 2),)),), (3, 2, ((1, 2), (0, 1)))),
            ("band_key", ((5, 2, ((4,), (0,), (3,))),), (5, 2, ((4, 0), (0, 0), (3, 0), (0, 4), (0, 0), (0, 3)))),
            ("band_for", ((3, 2, ((1, 2), (0, 1))), 1), NO_PAPER),
            ("band_for", ((3, 2, ((1, 2), (0, 1))), 2), (3, 2, ((1, 2),))),
            ("band_for", ((3, 2, ((1, 2), (0, 1))), 4), (3, 2, ((1, 2, 0, 0),))),
            ("band_for", ((2, 1, ((1,), (0,))), 3), (2, 1, ((1, 0, 0), (0, 0, 0)))),
            ("band_for", ((2, 1, ((1,), (0,))), 1), (2, 1, ((1,), (0,)))),
            ("band_for", ((2, 2, ((0, 0), (0, 0))), 1), (2, 2, ((0,),))),
            ("band_for", ((2, 2, ((0, 0),) * 3), 1), NO_PAPER), ("band_for", ((2, 2, ((1, 0),)), 2), NO_PAPER),
            ("band_for", (EMPTY, 1), NO_PAPER),
            ("band_for", ((3, 2, ((1, 2), (0, 2))), 2), NO_PAPER),
            ("band_for", ((3, 2, ((1, 2), (1, 1))), 2), NO_PAPER),
            ("band_for", (KEY, 1), NO_PAPER), ("band_for", (KEY, 9), NO_PAPER),
        )

    def test_rows(self):
        check_calls(
            self, ("key_rows", (EMPTY,), ()), ("key_rows", (THIRD,), ((1, 0, 2, 0), (2, 0, 1, 2))),
            ("key_by_rows", (5, 2, ()), (5, 0, ((), ()))),
            ("key_by_rows", (3, 1, ((2,), (1,), (0,))), (3, 3, ((2, 1, 0),))),
            ("key_by_rows", (3, 4, ((1, 0, 2, 0), (2, 0, 1, 2))), THIRD),
            ("unstacked", (KEY, 0), ((2, 0, ((),) * 4), KEY)), ("unstacked", (KEY, 2), (KEY, (2, 0, ((),) * 4))),
            ("unstacked", (KEY, 3), UNFIT),
            ("unstacked", (EMPTY, 0), (EMPTY, EMPTY)), ("unstacked", (EMPTY, 1), UNFIT),
            ("unstacked", (FIFTH, 2), ((5, 2, ((4, 0), (3, 2))), (5, 1, ((1,), (0,))))),
        )

    def test_columns(self):
        check_calls(
            self, ("without_cells", (KEY, ()), KEY), ("without_cells", (KEY, (0, 1, 2)), (2, 2, ((1, 0),))),
            ("without_cells", (KEY, (0, 1, 2, 3)), UNFIT), ("without_cells", (KEY, (3,)), (2, 2, KEY[2][:3])),
            ("without_cells", ((2, 1, ((1,),)), (0,)), UNFIT),
            ("without_cells", ((2, 1, ((1,),)), ()), (2, 1, ((1,),))),
            ("walked", (FIFTH, (1, 0)), (5, 3, ((3, 2, 0), (4, 0, 1)))),
            ("walked_back", (FIFTH, (1, 0)), (5, 3, ((3, 2, 0), (4, 0, 1)))),
            ("walked", (THIRD, (1, 2, 3, 0)), (3, 2, ((0, 0), (2, 1), (0, 2), (1, 2)))),
            ("walked_back", (THIRD, (1, 2, 3, 0)), (3, 2, ((0, 2), (1, 2), (0, 0), (2, 1)))),
            ("led_key", (KEY, ()), (2, 0, ((),) * 4)),
            ("led_key", (FIFTH, ((2, 1, 0), (0, 0, 3))), (5, 2, ((3, 3), (3, 0)))),
            ("led_key", (EMPTY, ((), ())), (2, 2, ((0, 0),) * 3)), ("marked_cells", (FIFTH, (1, 1, 1)), (),),
            ("marked_cells", (FIFTH, (1, 0, 0)), (0, 1)), ("marked_cells", (FIFTH, (0, 0, 2)), (0,)),
            ("marked_cells", (THIRD, (1, 1)), (3,)),
            ("marked_cells", (THIRD, (1, 0)), (0, 2)),
        )

    def test_stacked(self):
        check_calls(
            self, ("stacked", (LESSER, KEY), (2, 3, ((1, 1, 0), (0, 1, 1), (1, 0, 1), (1, 1, 0)))),
            ("stacked", (EMPTY, EMPTY), EMPTY),
            ("stacked", ((2, 0, ((),) * 4), KEY), KEY), ("stacked", (KEY, (2, 0, ((),) * 4)), KEY),
        )

    def test_keys_that_do_not_go_together(self):
        for name in PAIRS:
            check_calls(
                self, (name, (KEY, FIFTH), UNFIT), (name, (FIFTH, KEY), UNFIT), (name, (KEY, EMPTY), UNFIT),
                (name, (KEY, (2, 2, KEY[2][:3])), UNFIT), (name, (EMPTY, (5, 0, ((),))), UNFIT),
            )
        for name in PAIRS[2:]:
            check_calls(self, (name, (KEY, THIRD), UNFIT), (name, ((2, 0, ((),)), (3, 0, ((),))), UNFIT))

    def test_alike_keys(self):
        zeros, nulls = (2, 2, ((0, 0),) * 4), (5, 2, ((0, 0),) * 4)
        check_calls(
            self, ("alike_keys", (KEY, KEY), True), ("alike_keys", (zeros, nulls), True),
            ("alike_keys", (zeros, (5, 1, ((0,),) * 4)), False),
            ("alike_keys", (KEY, zeros), False), ("alike_keys", (zeros, THIRD), False),
            ("alike_keys", (EMPTY, (3, 0, ((),) * 3)), True),
            ("alike_keys", (KEY, (3,) + KEY[1:]), False), ("alike_keys", (zeros, (2, 1, ((0,),) * 4)), False),
            ("parting_picture", (KEY, KEY), NO_PAPER),
            ("parting_picture", (zeros, nulls), NO_PAPER), ("parting_picture", (EMPTY, (3, 0, ((),) * 3)), NO_PAPER),
        )
        for one, other in ((KEY, zeros), (KEY, THIRD), (KEY, (3,) + KEY[1:]), (zeros, (2, 1, ((0,),) * 4)),
                           (THIRD, (5,) + THIRD[1:]), ((2, 0, ((),)), (2, 1, ((0,),)))):
            judge = Fits(lambda told, one=one, other=other: brute.read(one, told) != brute.read(other, told))
            check_calls(self, ("parting_picture", (one, other), judge))

    def test_what_one_tells(self):
        nothing = (2, 0, ((),) * 4)
        check_calls(
            self, ("tells", (KEY, KEY), True), ("tells", (KEY, nothing), True), ("tells", (nothing, KEY), False),
            ("tells", (nothing, (2, 1, ((0,),) * 4)), True), ("led_by", (KEY, nothing), ()),
            ("led_by", (nothing, (2, 2, ((0, 0),) * 4)), ((), ())),
            ("led_by", (KEY, KEY), ((1, 0), (0, 1))), ("led_by", (LESSER, KEY), NO_PAPER),
            ("untold", (KEY, LESSER), NO_PAPER),
            ("untold", (KEY, nothing), NO_PAPER), ("led_by", (FIFTH, (5, 1, ((3,), (1,)))), Fits(
                lambda told: brute.sum_by(5, 2, ((4, 3), (0, 2), (1, 0)), told[0]) == (3, 1))),
            ("untold", (LESSER, KEY), Fits(lambda told: is_untold(LESSER, KEY, told))),
            ("untold", (nothing, KEY), Fits(lambda told: is_untold(nothing, KEY, told))),
        )


class GuaranteesTest(unittest.TestCase):
    def test_keys_are_alike_or_parted(self):
        for size in (1, 2):
            pictures = list(brute.pictures_of(4, 1, size))
            told_of = {key: [brute.read(key, picture) for picture in pictures] for key in small_keys(size)}
            for one, other in itertools.product(told_of, repeat=2):
                self.check_alike_or_parted(one, other, told_of[one] == told_of[other])

    def check_alike_or_parted(self, one, other, alike):
        self.assertIs(alike_keys(one, other), alike)
        told = outcome("parting_picture", (one, other))
        if alike:
            self.assertEqual(told, NO_PAPER)
        else:
            self.assertTrue(is_parting_picture(one, other, told))
            self.assertNotEqual(brute.read(one, told), brute.read(other, told))

    def test_is_parting_picture_over_all_pictures(self):
        keys = list(small_keys(2))[::7]
        for one, other in itertools.product(keys, repeat=2):
            for picture in brute.pictures_of(4, 2, 1):
                parts = brute.read(one, picture) != brute.read(other, picture)
                self.assertIs(is_parting_picture(one, other, picture), parts)

    def test_one_key_tells_other_or_two_pictures_show_that_it_does_not(self):
        for p, one_many, other_many, size in ((2, 1, 1, 3), (2, 2, 1, 2), (2, 1, 2, 2), (2, 0, 1, 2), (3, 1, 1, 2),
                                              (3, 2, 1, 1), (5, 1, 1, 1), (5, 0, 1, 1), (5, 1, 0, 2)):
            for one in brute.keys_of(p, one_many, size):
                for other in brute.keys_of(p, other_many, size):
                    self.check_told_or_shown(one, other)
        for one, other in itertools.product(brute.keys_of(5, 1, 2)[::3], repeat=2):
            self.check_told_or_shown(one, other)

    def check_told_or_shown(self, one, other):
        seen = {}
        for digits in brute.rows_of(one[0], len(one[2])):
            seen.setdefault(brute.read_rests(one, digits), set()).add(brute.read_rests(other, digits))
        told = all(len(found) == 1 for found in seen.values())
        self.assertIs(tells(one, other), told)
        rows, shown = outcome("led_by", (one, other)), outcome("untold", (one, other))
        if told:
            self.assertEqual(led_key(one, rows), other)
            self.assertEqual(shown, NO_PAPER)
        else:
            self.assertEqual(rows, NO_PAPER)
            self.assertTrue(is_untold(one, other, shown))
            near, far = shown
            self.assertEqual((near[0], len(near[1])), (far[0], len(far[1])))
            self.assertEqual(brute.read(one, near), brute.read(one, far))
            self.assertNotEqual(brute.read(other, near), brute.read(other, far))

    def test_is_untold_over_all_pairs_of_pictures(self):
        for one, other in (((2, 1, ((1,), (1,))), (2, 1, ((1,), (0,)))), ((5, 1, ((1,), (2,))), (5, 1, ((2,), (4,)))),
                           ((3, 1, ((1,), (1,))), (3, 2, ((1, 0), (1, 1))))):
            for near, far in itertools.product(brute.pictures_of(4, 1, 2), repeat=2):
                alike = brute.read(one, near) == brute.read(one, far)
                shows = alike and brute.read(other, near) != brute.read(other, far)
                self.assertIs(is_untold(one, other, (near, far)), shows)

    def test_a_stacked_key_tells_both_and_whatever_tells_both_tells_it(self):
        for one, other in itertools.product(brute.keys_of(2, 1, 3), repeat=2):
            both = stacked(one, other)
            self.assertTrue(is_key(both))
            self.assertEqual(unstacked(both, 1), (one, other))
            self.assertTrue(tells(both, one) and tells(both, other))
            for third in brute.keys_of(2, 2, 3)[::5]:
                self.assertIs(tells(third, both), tells(third, one) and tells(third, other))

    def test_rows_and_walks_and_parts(self):
        for key in more_keys():
            p, many, columns = key
            size = len(columns)
            self.assertTrue(is_key(key))
            rows = key_rows(key)
            self.assertEqual(rows, tuple(tuple(column[place] for column in columns) for place in range(many)))
            self.assertEqual(key_by_rows(p, size, rows), key)
            for order in (tuple(range(size)), tuple(range(size))[::-1], tuple(range(1, size)) + (0,)):
                self.assertEqual(walked(key, order), (p, many, tuple(columns[cell] for cell in order)))
                self.assertEqual(walked_back(walked(key, order), order), key)
                self.assertEqual(walked(walked_back(key, order), order), key)
            for place in range(many + 1):
                self.assertEqual(stacked(*unstacked(key, place)), key)
            for lot in ((0,), tuple(range(1, size)), (size - 1,)):
                left = tuple(column for cell, column in enumerate(columns) if cell not in lot)
                self.assertEqual(outcome("without_cells", (key, lot)), (p, many, left) if left else UNFIT)
            self.check_words(key)

    def check_words(self, key):
        p, many, columns = key
        words = brute.rows_of(p, many)[1:60]
        for word in words:
            marked = tuple(cell for cell, column in enumerate(columns) if brute.product_of(p, word, column))
            self.assertEqual(marked_cells(key, word), marked)
        led = tuple(tuple(brute.product_of(p, word, column) for word in words) for column in columns)
        self.assertEqual(led_key(key, tuple(words)), (p, len(words), led))

    def test_bands_and_their_keys(self):
        sizes = ((2, 1, 1), (2, 1, 3), (2, 2, 2), (3, 1, 2), (3, 2, 1), (5, 1, 1))
        bands = [(p, many, block) for p, size, length in sizes for block in brute.grids_of(p, length, size)
                 for many in range(1, 5)]
        for band in bands:
            p, many, block = band
            size, length = len(block), len(block[0])
            key = band_key(band)
            self.assertTrue(is_key(key))
            self.assertEqual(len(key[2]), many * size)
            for cell, column in enumerate(key[2]):
                digits = {cell // size + own: digit for own, digit in enumerate(block[cell % size])}
                self.assertEqual(column, tuple(digits.get(row, 0) for row in range(many)))
            fallen = tuple(row[:many] + (0,) * (length - min(many, length)) for row in block)
            self.assertEqual(band_for(key, length), (p, many, fallen))
            self.assertEqual(band_key(band_for(key, length + 1)), key)

    def test_a_key_without_a_band_has_none(self):
        for p, many, size in ((2, 2, 2), (2, 1, 3), (2, 2, 3), (3, 2, 2), (2, 3, 3)):
            for length in (1, 2, 3):
                blocks = brute.grids_of(p, length, size // many) if size % many == 0 else []
                bands = {band_key((p, many, block)) for block in blocks}
                for key in brute.keys_of(p, many, size)[::3]:
                    self.assertEqual(outcome("band_for", (key, length)) != NO_PAPER, key in bands)


if __name__ == "__main__":
    unittest.main()
