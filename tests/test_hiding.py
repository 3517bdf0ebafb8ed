"""[10]: what a PICTURE hides, and what bars it."""

import itertools
import unittest

from drycells.hiding import (
    always_hides, can_hide, hiding_picture, hiding_rests, how_many_hidden, how_many_rests, is_bar, is_hiding,
    is_hiding_rests, least_freed, least_to_bar, rests_there, word_against,
)
from tests import brute
from tests.checks import (
    JUNK, Fits, Raises, check_calls, check_raises_of_things, check_things, check_told, outcome, same,
)

UNFIT, NO_PAPER, TOO_MANY = Raises("Unfit"), Raises("NoPaper"), Raises("TooMany")
KEY, PAGE = (2, 2, ((1, 0), (0, 1), (1, 1), (0, 0))), (9, ((4, 7), (2, 5)))
FEES, BARE, NOTE = (1, None, 1, 1), (None, None, None, 1), (1, 0)
FREE, SHUT = (0, 1, 1000, 3), (None,) * 4
THIRD = (3, 2, ((1, 2), (2, 1), (0, 1)))
STRIP = (7, ((3, 4, 5),))
FIFTH, PAIR = (5, 1, ((3,), (0,))), (4, ((2,), (4,)))
EMPTY = (3, 0, ((), (), ()))
TASKS = (
    "can_hide", "hiding_rests", "hiding_picture", "word_against", "how_many_rests", "kept_always", "moved_always",
    "least_freed", "least_to_bar",
)
THINGS = ("is_hiding_rests", "is_hiding", "is_bar")
# (picture, prices, key, message) of which the last three do not all go with the first.
UNFITTING = (
    (PAGE, FEES[:3], KEY, NOTE), (PAGE, FEES + (1,), KEY, NOTE), (PAGE, (), KEY, NOTE),
    (PAGE, FEES, (2, 2, KEY[2][:3]), NOTE), (PAGE, FEES, (2, 2, KEY[2] + ((0, 1),)), NOTE), (STRIP, FEES, KEY, NOTE),
    (STRIP, FEES[:3], KEY, NOTE), (PAGE, FEES, KEY, (1,)), (PAGE, FEES, KEY, (1, 0, 0)), (PAGE, FEES, KEY, ()),
    (PAGE, FEES, KEY, (2, 0)), (PAGE, FEES, KEY, (0, -1)), (STRIP, (1,) * 3, EMPTY, (0,)),
)


def no_cell(number):
    return Raises("NoCell", number=number)


def big_key(p, many):
    """A KEY of so many rows in which each MESSAGE of units can be read."""
    return (p, many, tuple(tuple(int(at == place) for at in range(many)) for place in range(many)))


def least_set(size, choices, is_enough):
    """The least LOT made of choices of which is_enough tells True; None if there is none."""
    for lot in brute.lots_of(size):
        if set(lot) <= set(choices) and is_enough(lot):
            return lot
    return None


class ThingsTest(unittest.TestCase):
    def test_is_hiding_rests(self):
        wrong = ((1, 1, 0, 1), (0, 0, 1, 1), (0, 1, 1), (0, 1, 1, 1, 0), (0, 1, 1, 2), (2, 1, 1, 1))
        check_things(self, "is_hiding_rests", (PAGE, FEES, KEY, NOTE), ((0, 1, 1, 1), (0, 1, 1, 0)), wrong)
        check_things(self, "is_hiding_rests", (PAGE, BARE, KEY, NOTE), (), ((0, 1, 1, 1), (0, 1, 0, 1), ()))
        check_things(self, "is_hiding_rests", (PAIR, (1, 1), FIFTH, (4,)), ((3, 0), (3, 4)), ((2, 4), (3, 5), (8, 4)))
        check_things(self, "is_hiding_rests", (STRIP, (None, 1, 1), EMPTY, ()), ((0, 0, 0), (0, 2, 1)), ((1, 1, 2),))

    def test_is_hiding(self):
        right = ((9, ((4, 7), (3, 5))), (9, ((0, 7), (9, 2))))
        wrong = (
            (9, ((4, 9), (3, 5))), PAGE, (8, ((4, 7), (3, 5))), (9, ((4, 7, 3, 5),)), (9, ((4,), (7,), (3,), (5,))),
            (9, ((4, 7), (3, 10))), (9, ((4, 7), (3,))), (9, ((4, 7), (3, 5), (0, 0))),
        )
        check_things(self, "is_hiding", (PAGE, FEES, KEY, NOTE), right, wrong)
        check_things(self, "is_hiding", (PAGE, SHUT, KEY, (0, 1)), (PAGE,), ((9, ((4, 7), (2, 7))),))
        check_things(self, "is_hiding", (PAGE, SHUT, KEY, NOTE), (), (PAGE,) + right)
        check_things(self, "is_hiding", (PAIR, (1, None), FIFTH, (4,)), ((4, ((3,), (4,))),), ((4, ((3,), (3,))), PAIR))

    def test_is_bar(self):
        wrong = ((1, 1), (0, 0), (1,), (1, 0, 0), (1, 2))
        check_things(self, "is_bar", (PAGE, BARE, KEY, NOTE), ((1, 0), (0, 1)), wrong)
        check_things(self, "is_bar", (PAGE, FEES, KEY, NOTE), (), ((1, 0), (0, 1), (1, 1), (0, 0)))
        check_things(self, "is_bar", (PAGE, SHUT, KEY, (0, 1)), (), ((1, 0), (0, 1), (1, 1), (0, 0)))
        check_things(self, "is_bar", (STRIP, (None,) * 3, THIRD, (2, 1)), ((0, 1), (0, 2), (1, 1)), ((1, 0), (0, 4)))
        check_things(self, "is_bar", (STRIP, (None,) * 3, EMPTY, ()), (), ((0,),))

    def test_errors_whatever_thing_is(self):
        for name in THINGS:
            for task in UNFITTING:
                check_raises_of_things(self, name, task, UNFIT)

    def test_idle_thing_of_64_cells(self):
        key, picture = brute.mixed_key(3, 4, 64, 1), brute.mixed_picture(255, 8, 8, 1)
        for thing in JUNK:
            for name in THINGS:
                check_told(self, name, (picture, (1,) * 64, key, (0, 1, 2, 0)), thing, False)


class CallsTest(unittest.TestCase):
    def test_what_is_hidden(self):
        check_calls(
            self, ("can_hide", (PAGE, FEES, KEY, NOTE), True), ("can_hide", (PAGE, BARE, KEY, NOTE), False),
            ("can_hide", (PAGE, SHUT, KEY, (0, 1)), True), ("can_hide", (STRIP, (None,) * 3, EMPTY, ()), True),
            ("can_hide", (PAIR, (None, 1), FIFTH, (1,)), True), ("can_hide", (PAIR, (None, 1), FIFTH, (2,)), False),
            ("hiding_rests", (PAGE, FEES, KEY, NOTE), Fits(lambda told: told in ((0, 1, 1, 0), (0, 1, 1, 1)))),
            ("hiding_rests", (PAGE, SHUT, KEY, (0, 1)), (0, 1, 0, 1)),
            ("hiding_rests", (PAGE, SHUT, KEY, NOTE), NO_PAPER),
            ("hiding_rests", (PAIR, (0, None), FIFTH, (2,)), (4, 4)),
            ("hiding_picture", (PAIR, (0, None), FIFTH, (2,)), Fits(lambda told: told == (4, ((4,), (4,))))),
            ("hiding_picture", (PAGE, SHUT, KEY, (0, 1)), PAGE), ("hiding_picture", (PAGE, BARE, KEY, NOTE), NO_PAPER),
            ("word_against", (PAGE, BARE, KEY, NOTE), Fits(lambda told: told in ((0, 1), (1, 0)))),
            ("word_against", (PAGE, FEES, KEY, NOTE), NO_PAPER), ("word_against", (PAGE, SHUT, KEY, (0, 1)), NO_PAPER),
            ("word_against", (STRIP, (None,) * 3, EMPTY, ()), NO_PAPER),
            ("word_against", (PAIR, (None, 1), FIFTH, (2,)), Fits(lambda told: told in ((1,), (2,), (3,), (4,)))),
        )

    def test_counts(self):
        check_calls(
            self, ("how_many_rests", (PAGE, FEES, KEY, NOTE), 2), ("how_many_rests", (PAGE, FREE, KEY, NOTE), 4),
            ("how_many_rests", (PAGE, SHUT, KEY, NOTE), 0), ("how_many_rests", (PAGE, SHUT, KEY, (0, 1)), 1),
            ("how_many_rests", (STRIP, (1, None, 0), EMPTY, ()), 9), ("how_many_rests", (PAIR, (2, 2), FIFTH, (0,)), 5),
            ("how_many_hidden", (BARE, KEY), 1), ("how_many_hidden", (FEES, KEY), 4),
            ("how_many_hidden", ((None,) * 3, EMPTY), 1),
            ("how_many_hidden", ((1, 0, None), THIRD), 3), ("how_many_hidden", ((None, 0, 0), THIRD), 9),
            ("always_hides", (BARE, KEY), False), ("always_hides", (FEES, KEY), True),
            ("always_hides", ((None,) * 3, EMPTY), True), ("always_hides", ((1, 0, None), THIRD), False),
            ("how_many_hidden", (FEES[:3], KEY), UNFIT), ("always_hides", (FEES[:3], KEY), UNFIT),
            ("how_many_hidden", (FEES + (1,), KEY), UNFIT), ("always_hides", ((), KEY), UNFIT),
            ("how_many_hidden", ((1,) * 12, big_key(2, 12)), 4096),
        )

    def test_cells_in_hiding_rests(self):
        check_calls(
            self, ("rests_there", (PAGE, FEES, KEY, NOTE, 0), (0,)),
            ("rests_there", (PAGE, FEES, KEY, NOTE, 3), (0, 1)),
            ("rests_there", (PAGE, BARE, KEY, NOTE, 3), ()), ("rests_there", (PAGE, BARE, KEY, NOTE, 0), ()),
            ("rests_there", (STRIP, (None, 1, 1), EMPTY, (), 1), (0, 1, 2)),
            ("rests_there", (STRIP, (None, 1, 1), EMPTY, (), 0), (0,)),
            ("rests_there", (PAIR, (1, 1), FIFTH, (4,), 0), (3,)),
            ("rests_there", (PAIR, (1, 1), FIFTH, (4,), 1), (0, 1, 2, 3, 4)),
            ("kept_always", (PAGE, FEES, KEY, NOTE), (0,)), ("moved_always", (PAGE, FEES, KEY, NOTE), (2,)),
            ("kept_always", (PAGE, SHUT, KEY, (0, 1)), ()), ("moved_always", (PAGE, SHUT, KEY, (0, 1)), ()),
            ("kept_always", (PAGE, BARE, KEY, NOTE), NO_PAPER), ("moved_always", (PAGE, BARE, KEY, NOTE), NO_PAPER),
            ("kept_always", (PAIR, (0, 0), FIFTH, (1,)), (0,)), ("moved_always", (PAIR, (0, 0), FIFTH, (2,)), (0,)),
            ("kept_always", (STRIP, (1, 1, 1), EMPTY, ()), ()), ("moved_always", (STRIP, (1, 1, 1), EMPTY, ()), ()),
        )

    def test_least_sets(self):
        check_calls(
            self, ("least_freed", (PAGE, BARE, KEY, NOTE), (2,)), ("least_freed", (PAGE, FEES, KEY, NOTE), ()),
            ("least_freed", (PAGE, SHUT, KEY, (1, 0)), (2,)), ("least_freed", (PAGE, SHUT, KEY, (0, 1)), ()),
            ("least_freed", (PAGE, SHUT, (2, 2, ((1, 0), (0, 1), (0, 0), (0, 1))), (1, 1)), (0, 1)),
            ("least_freed", (PAGE, SHUT, (2, 2, ((1, 0), (1, 0), (1, 0), (1, 0))), (0, 1)), NO_PAPER),
            ("least_freed", (PAIR, (None, None), (5, 1, ((3,), (2,))), (0,)), (0,)),
            ("least_freed", (STRIP, (None,) * 3, EMPTY, ()), ()),
            ("least_to_bar", (PAGE, FEES, KEY, NOTE), (2,)), ("least_to_bar", (PAGE, BARE, KEY, NOTE), ()),
            ("least_to_bar", (PAGE, FREE, KEY, NOTE), (0, 2)), ("least_to_bar", (PAGE, FREE, KEY, (0, 1)), NO_PAPER),
            ("least_to_bar", (PAGE, SHUT, KEY, (0, 1)), NO_PAPER),
            ("least_to_bar", (STRIP, (1,) * 3, EMPTY, ()), NO_PAPER),
            ("least_to_bar", (PAIR, (1, 1), FIFTH, (2,)), (0,)), ("least_to_bar", (PAIR, (None, 1), FIFTH, (2,)), ()),
            ("least_to_bar", (PAGE, FREE, KEY, (0, 0)), (0, 1)),
        )

    def test_what_does_not_go_together(self):
        for task in UNFITTING:
            for name in TASKS:
                check_calls(self, (name, task, UNFIT))
            check_calls(self, ("rests_there", task + (0,), UNFIT), ("rests_there", task + (9,), UNFIT))

    def test_numbers_that_are_none_of_a_cell(self):
        for cell in (-1, 4, 5, -4, 10 ** 9):
            for task in ((PAGE, FEES, KEY, NOTE), (PAGE, BARE, KEY, NOTE), (PAGE, SHUT, KEY, (0, 1))):
                check_calls(self, ("rests_there", task + (cell,), no_cell(cell)))

    def test_just_at_and_above_the_bound(self):
        for p, most in ((2, 9), (3, 6), (5, 4)):
            for many in (most, most + 1):
                key, picture = big_key(p, many), (9, ((0,) * many,))
                unit, zeros = (1,) + (0,) * (many - 1), (0,) * many
                for name, prices, told in (("least_freed", (None,) * many, (0,)), ("least_to_bar", (1,) * many, (0,))):
                    expected = told if many == most else TOO_MANY
                    self.assertEqual(outcome(name, (picture, prices, key, unit)), expected)
                    self.assertEqual(outcome(name, (picture, prices[1:], key, unit)), UNFIT)
                    self.assertEqual(outcome(name, (picture, prices, key, unit[1:])), UNFIT)
                read = () if many == most else TOO_MANY
                self.assertEqual(outcome("least_freed", (picture, (None,) * many, key, zeros)), read)
                read = NO_PAPER if many == most else TOO_MANY
                self.assertEqual(outcome("least_to_bar", (picture, (None,) * many, key, zeros)), read)
                self.assertIs(can_hide(picture, (1,) * many, key, unit), True)
                self.assertEqual(how_many_rests(picture, (1,) * many, key, unit), 1)

    def test_64_cells(self):
        for p, many in ((2, 12), (3, 9), (5, 7)):
            key, picture = brute.mixed_key(p, many, 64, p), brute.mixed_picture(255, 8, 8, p)
            prices = brute.mixed(p, 64, (None, 1, 1000, 0))
            message = brute.mixed(p, many, range(p))
            told = hiding_rests(picture, prices, key, message)
            self.assertEqual(brute.read_rests(key, told), message)
            self.assertIs(is_hiding_rests(picture, prices, key, message, told), True)
            self.assertIs(is_hiding(picture, prices, key, message, hiding_picture(picture, prices, key, message)), True)
            few = prices[:5] + (None,) * 59
            free = sum(price is not None for price in few)
            self.assertEqual(how_many_hidden(few, key), p ** brute.rank_of(p, many, [
                column for column, price in zip(key[2], few) if price is not None]))
            word = word_against(picture, few, key, message)
            self.assertIs(is_bar(picture, few, key, message, word), True)
            self.assertIn(word, brute.bars_of(picture, few, key, message) if p ** many < 5000 else [word])
            self.assertLessEqual(free, 5)

    def test_least_sets_of_64_cells(self):
        for p, many in ((2, 9), (3, 6), (5, 4)):
            key, picture = brute.mixed_key(p, many, 64, p), brute.mixed_picture(255, 8, 8, p)
            message = brute.mixed(p + 1, many, range(p))
            freed = least_freed(picture, (None,) * 64, key, message)
            prices = tuple(1 if cell in freed else None for cell in range(64))
            self.assertIs(can_hide(picture, prices, key, message), True)
            for cell in freed:
                fewer = tuple(None if own == cell else price for own, price in enumerate(prices))
                self.assertIs(can_hide(picture, fewer, key, message), False)
            barred = least_to_bar(picture, (1,) * 64, key, message)
            shut = tuple(None if cell in barred else 1 for cell in range(64))
            self.assertIs(can_hide(picture, shut, key, message), False)


class GuaranteesTest(unittest.TestCase):
    def test_hiding_rests_or_a_bar_never_both(self):
        for picture, prices, key in brute.small_tasks(9):
            p, many, columns = key
            everything = brute.rows_of(p, len(columns))
            for message, found in brute.hidings_of(picture, prices, key).items():
                task = (picture, prices, key, message)
                self.assertIs(can_hide(*task), found != [])
                self.assertEqual(how_many_rests(*task), len(found))
                self.assertEqual([digits for digits in everything if is_hiding_rests(*task, digits)], found)
                bars = brute.bars_of(*task)
                self.assertEqual([word for word in brute.rows_of(p, many) if is_bar(*task, word)], bars)
                self.assertIs(bars == [], found != [])
                rests_told, word_told = outcome("hiding_rests", task), outcome("word_against", task)
                shown = outcome("hiding_picture", task)
                if found:
                    self.assertIn(rests_told, found)
                    self.assertTrue(brute.hides(*task, shown))
                    self.assertIs(is_hiding(*task, shown), True)
                    self.assertEqual(word_told, NO_PAPER)
                else:
                    self.assertIn(word_told, bars)
                    self.assertEqual((rests_told, shown), (NO_PAPER, NO_PAPER))

    def test_cells_in_all_hiding_rests(self):
        for picture, prices, key in brute.small_tasks(9):
            p = key[0]
            own = brute.rests_in(p, picture)
            for message, found in brute.hidings_of(picture, prices, key).items():
                task = (picture, prices, key, message)
                had = [tuple(sorted({digits[cell] for digits in found})) for cell in range(len(own))]
                self.assertEqual([rests_there(*task, cell) for cell in range(len(own))], had)
                for cell, told in enumerate(had):
                    counts = {sum(digits[cell] == rest for digits in found) for rest in told}
                    self.assertIn((len(told), len(counts)), ((0, 0), (1, 1), (p, 1)))
                free = [cell for cell, price in enumerate(prices) if price is not None]
                kept = tuple(cell for cell in free if had[cell] == (own[cell],))
                moved = tuple(cell for cell in free if own[cell] not in had[cell])
                expected = (kept, moved) if found else (NO_PAPER, NO_PAPER)
                self.assertEqual((outcome("kept_always", task), outcome("moved_always", task)), expected)

    def test_each_message_can_be_hidden_exactly_if_no_word_marks_no_free_cell(self):
        for picture, prices, key in brute.small_tasks(30):
            hidden = brute.hidings_of(picture, prices, key)
            count = sum(found != [] for found in hidden.values())
            self.assertEqual(how_many_hidden(prices, key), count)
            barring = [word for word in brute.words_of(key)
                       if all(prices[cell] is None for cell in brute.marks_of(key, word))]
            self.assertIs(always_hides(prices, key), barring == [])
            self.assertIs(always_hides(prices, key), count == key[0] ** key[1])

    def test_least_sets_beside_all_sets(self):
        for picture, prices, key in brute.small_tasks(9):
            size = len(prices)
            barred = [cell for cell, price in enumerate(prices) if price is None]
            free = [cell for cell, price in enumerate(prices) if price is not None]
            readings = {
                lot: brute.hidings_of(picture, tuple(None if cell in lot else 1 for cell in range(size)), key)
                for lot in brute.lots_of(size)
            }
            for message in brute.rows_of(key[0], key[1]):
                task = (picture, prices, key, message)
                to_free = least_set(size, barred, lambda lot: readings[
                    tuple(cell for cell in barred if cell not in lot)][message])
                self.assertEqual(outcome("least_freed", task), NO_PAPER if to_free is None else to_free)
                to_bar = least_set(size, free, lambda lot: not readings[
                    tuple(sorted(set(barred) | set(lot)))][message])
                self.assertEqual(outcome("least_to_bar", task), NO_PAPER if to_bar is None else to_bar)
                self.assertIs(to_bar is None, brute.read(key, picture) == message)

    def test_is_hiding_of_all_small_pictures(self):
        for picture, prices, key in itertools.chain(brute.small_tasks(4), brute.small_tasks(4, (1, 3))):
            top, rows = picture
            if len(rows[0]) > 3:
                continue
            for number, other in enumerate(brute.pictures_of(top, 1, len(rows[0]))):
                message = brute.rows_of(key[0], key[1])[number % key[0] ** key[1]]
                task = (picture, prices, key, message)
                self.assertTrue(same(is_hiding(*task, other), brute.hides(*task, other)))


if __name__ == "__main__":
    unittest.main()
