"""[14]: what can still be hidden, whichever CELLS are barred."""

import itertools
import unittest

from drycells.anylots import (
    all_paper, any_paper, bare_lots, barring_word, bars, is_all_paper, is_any_paper, is_barring_word, is_worst_lot,
    least_lots, left_many, left_messages, left_words, marks_counted, most_barred, shortest_words, worst_lot,
)
from drycells.hiding import always_hides, can_hide
from tests import brute
from tests.checks import Fits, Raises, check_calls, check_raises_of_things, check_things, outcome

UNFIT, NO_PAPER, TOO_MANY = Raises("Unfit"), Raises("NoPaper"), Raises("TooMany")
KEY, LINE = (2, 2, ((1, 0), (1, 1), (0, 1), (1, 1))), (3, 2, ((1, 0), (0, 1)))
POOR, FIFTH = (2, 2, ((1, 1), (1, 1))), (5, 1, ((3,), (0,), (2,)))
EMPTY, NULL = (2, 0, ((), ())), (3, 1, ((0,), (0,)))
PICTURE, PAIR, STRIP = (7, ((3, 4), (6, 1))), (4, ((2, 4),)), (5, ((4, 1, 2),))
LONE = ("marks_counted", "shortest_words", "most_barred", "bare_lots", "least_lots")
WITH_LOT = ("bars", "barring_word", "all_paper", "left_many", "left_words")
# LOTS of which the first number that is none of a CELL of KEY stands beside it.
NO_LOTS = (((4,), 4), ((-1,), -1), ((0, 4), 4), ((0, 1, 5, 9), 5), ((-3, 9), -3))


def no_cell(number):
    return Raises("NoCell", number=number)


def unit_key(p, many):
    """A KEY of so many rows, each with one column of its own."""
    return (p, many, tuple(tuple(int(at == place) for at in range(many)) for place in range(many)))


def small_keys():
    """Small KEYS of each PRIME: all of some sizes, others as if at random."""
    for p, many, size in ((2, 0, 2), (2, 1, 3), (2, 2, 2), (3, 0, 1), (3, 1, 2), (5, 1, 1)):
        yield from brute.keys_of(p, many, size)
    for p, many, size in ((2, 2, 4), (2, 3, 5), (3, 2, 3), (3, 2, 4), (5, 1, 3), (5, 2, 3)):
        for start in range(8):
            yield brute.mixed_key(p, many, size, start)


def barring_words(key, lot):
    """All WORDS that mark CELLS of lot alone, or none."""
    return [word for word in brute.words_of(key) if set(brute.marks_of(key, word)) <= set(lot)]


class ThingsTest(unittest.TestCase):
    def test_is_barring_word(self):
        check_things(self, "is_barring_word", (KEY, (0, 2)), ((1, 1),), ((0, 1), (1, 0), (0, 0), (1,), (1, 3)))
        check_things(self, "is_barring_word", (KEY, (0, 1, 2, 3)), ((0, 1), (1, 0), (1, 1)), ((0, 0), (1, 1, 1)))
        check_things(self, "is_barring_word", (POOR, ()), ((1, 1),), ((0, 1), (1, 0)))
        check_things(self, "is_barring_word", (FIFTH, (0, 2)), ((1,), (4,)), ((0,), (5,)))
        check_things(self, "is_barring_word", (EMPTY, (0, 1)), (), ((), (0,)))

    def test_is_all_paper(self):
        right = (((0, 0, 1, 1), (0, 0, 1, 0)),)
        wrong = (
            ((1, 0, 0, 0), (0, 0, 1, 0)), ((0, 0, 1, 0), (0, 0, 1, 1)), right[0][:1], right[0] * 2, ((0, 0, 1, 1),) * 2,
            ((0, 0, 1, 1), (0, 0, 1)), ((0, 0, 1, 1), (0, 0, 3, 0)), ((0, 0, 1, 1), (0, 1, 0, 0)), ((0, 0, 1, 1), None),
        )
        check_things(self, "is_all_paper", (KEY, (0, 1)), right, wrong)
        check_things(self, "is_all_paper", (KEY, (0, 2)), (), right)
        check_things(self, "is_all_paper", (KEY, ()), right + (((1, 0, 0, 0), (0, 0, 1, 0)),), wrong[1:])
        check_things(self, "is_all_paper", (FIFTH, (0,)), (((0, 0, 3),), ((0, 4, 3),)), (((2, 0, 0),), ((0, 0, 8),)))
        check_things(self, "is_all_paper", (EMPTY, (0, 1)), (), (((),), ((0, 0),)), fine=((),))

    def test_is_any_paper(self):
        right = (((1, 2), (0, 3), (0, 2)), ((2, 3), (0, 1), (0, 2)), ((1, 3), (1, 3), (0, 2)))
        wrong = (
            ((1, 2), (0, 3)), ((0, 1), (0, 3), (0, 2)), ((2, 1), (0, 3), (0, 2)), ((1, 1), (0, 3), (0, 2)),
            ((1, 2), (0, 3), (0,)), ((1, 2), (0, 1, 3), (0, 2)), right[0] + ((0, 1),), ((1, 2), (0, 4), (0, 2)),
            ((1, 2), (0, 2), (0, 3)), ((1, 2), (0, 3), None),
        )
        check_things(self, "is_any_paper", (KEY, 1), right, wrong)
        check_things(self, "is_any_paper", (KEY, 0), (((1,), (0,), (0,)),), right)
        check_things(self, "is_any_paper", (KEY, 2), (), right + (((1, 2, 3), (0, 1, 3), (0, 2)),))
        check_things(self, "is_any_paper", (POOR, 0), (), (((0,), (0,), ()), ((0,), (0,), (0,))))
        check_things(self, "is_any_paper", (EMPTY, 0), (), (((),), ((0,),)), fine=((),))
        check_things(self, "is_any_paper", (EMPTY, 7), (), (((),),), fine=((),))
        check_things(self, "is_any_paper", (FIFTH, 1), (((0, 2),) * 4,), (((0, 1),) * 4, ((0, 2),) * 3, ((0,),) * 4))

    def test_is_worst_lot(self):
        right = ((0, 2), (0, 1, 2), (0, 1, 2, 3), (0, 1, 3))
        check_things(self, "is_worst_lot", (KEY, 2), right[:1], right[1:] + ((2, 0), (0, 1), (0, 0), (0, 2, 4), (1, 3)))
        check_things(self, "is_worst_lot", (KEY, 9), right, ((0, 2, 2), (2, 0), (0, 1), (0, 2, 4), (-1, 0, 2), (0,)))
        check_things(self, "is_worst_lot", (KEY, 1), (), right + ((0,), (1,)))
        check_things(self, "is_worst_lot", (POOR, 0), (), ((0,), (0, 1)), fine=((),))
        check_things(self, "is_worst_lot", (EMPTY, 2), (), ((0,), (0, 1), ()))
        check_things(self, "is_worst_lot", (FIFTH, 2), ((0, 2),), ((0, 1), (0,), (0, 1, 2)))

    def test_errors_whatever_thing_is(self):
        above = unit_key(2, 10)
        for lot, number in NO_LOTS:
            check_raises_of_things(self, "is_barring_word", (KEY, lot), no_cell(number))
            check_raises_of_things(self, "is_all_paper", (KEY, lot), no_cell(number))
        for name in ("is_any_paper", "is_worst_lot"):
            check_raises_of_things(self, name, (above, 0), TOO_MANY)
            check_raises_of_things(self, name, (above, 99), TOO_MANY)


class CallsTest(unittest.TestCase):
    def test_words(self):
        check_calls(
            self, ("marks_counted", (KEY,), (0, 0, 1, 2, 0)), ("marks_counted", (POOR,), (1, 0, 2)),
            ("marks_counted", (EMPTY,), (0, 0, 0)), ("marks_counted", (NULL,), (2, 0, 0)),
            ("marks_counted", (FIFTH,), (0, 0, 4, 0)), ("marks_counted", (LINE,), (0, 4, 4)),
            ("shortest_words", (KEY,), ((1, 1),)), ("shortest_words", (POOR,), ((1, 1),)),
            ("shortest_words", (EMPTY,), ()),
            ("shortest_words", (NULL,), ((1,), (2,))), ("shortest_words", (LINE,), ((0, 1), (0, 2), (1, 0), (2, 0))),
            ("most_barred", (KEY,), 1), ("most_barred", (POOR,), None), ("most_barred", (NULL,), None),
            ("most_barred", (EMPTY,), 2), ("most_barred", (FIFTH,), 1), ("most_barred", (LINE,), 0),
            ("most_barred", ((2, 0, ((),)),), 1), ("most_barred", ((3, 1, ((1,),) * 4),), 3),
        )

    def test_lots(self):
        check_calls(
            self, ("bars", (KEY, ()), False), ("bars", (KEY, (0, 2)), True), ("bars", (KEY, (0, 1, 2, 3)), True),
            ("bars", (POOR, ()), True), ("bars", (EMPTY, (0, 1)), False), ("bars", (NULL, ()), True),
            ("bars", (FIFTH, (0, 1)), False), ("bars", (FIFTH, (0, 2)), True),
            ("barring_word", (KEY, (0, 2)), (1, 1)), ("barring_word", (POOR, ()), (1, 1)),
            ("barring_word", (KEY, (0, 1)), NO_PAPER), ("barring_word", (EMPTY, (0, 1)), NO_PAPER),
            ("barring_word", (FIFTH, (0, 2)), Fits(lambda told: told in ((1,), (2,), (3,), (4,)))),
            ("all_paper", (LINE, ()), ((1, 0), (0, 1))), ("all_paper", (LINE, (0,)), NO_PAPER),
            ("all_paper", (EMPTY, (0, 1)), ()), ("all_paper", (NULL, ()), NO_PAPER),
            ("all_paper", (POOR, ()), NO_PAPER),
            ("all_paper", (KEY, (0, 1)), ((0, 0, 1, 1), (0, 0, 1, 0))),
            ("all_paper", (FIFTH, (0,)), Fits(lambda told: told in (((0, digit, 3),) for digit in range(5)))),
        )

    def test_what_is_left(self):
        check_calls(
            self, ("left_many", (KEY, ()), 4), ("left_many", (KEY, (0, 2)), 2), ("left_many", (KEY, (0, 1, 2, 3)), 1),
            ("left_many", (EMPTY, ()), 1), ("left_many", (LINE, (0,)), 3), ("left_many", (FIFTH, (0, 2)), 1),
            ("left_many", (unit_key(5, 12), (0, 3)), 5 ** 10), ("bars", (unit_key(5, 12), (11,)), True),
            ("left_messages", (PICTURE, KEY, ()), ((0, 0), (0, 1), (1, 0), (1, 1))),
            ("left_messages", (PICTURE, KEY, (0, 1, 2, 3)), ((0, 1),)), ("left_messages", (PAIR, EMPTY, (0,)), ((),)),
            ("left_messages", (PAIR, LINE, (1,)), ((0, 1), (1, 1), (2, 1))),
            ("left_messages", (STRIP, FIFTH, (0, 1, 2)), ((1,),)),
            ("left_words", (KEY, ()), ()), ("left_words", (KEY, (0, 1, 3)), ((1, 0),)),
            ("left_words", (EMPTY, (0, 1)), ()),
            ("left_words", (POOR, ()), ((1, 1),)), ("left_words", (LINE, (1,)), ((0, 1), (0, 2))),
            ("left_words", (NULL, ()), ((1,), (2,))), ("left_words", (FIFTH, (0, 2)), ((1,), (2,), (3,), (4,))),
        )

    def test_lots_that_bar(self):
        check_calls(
            self, ("bare_lots", (KEY,), ((0, 1, 3), (0, 2), (1, 2, 3))), ("bare_lots", (POOR,), ((),)),
            ("bare_lots", (EMPTY,), ()), ("bare_lots", (NULL,), ((),)), ("bare_lots", (LINE,), ((0,), (1,))),
            ("bare_lots", (FIFTH,), ((0, 2),)), ("least_lots", (KEY,), ((0, 2),)), ("least_lots", (POOR,), ((),)),
            ("least_lots", (EMPTY,), ()), ("least_lots", (LINE,), ((0,), (1,))), ("least_lots", (FIFTH,), ((0, 2),)),
            ("any_paper", (KEY, 0), Fits(lambda told: is_any_paper(KEY, 0, told))),
            ("any_paper", (KEY, 1), Fits(lambda told: is_any_paper(KEY, 1, told))), ("any_paper", (KEY, 2), NO_PAPER),
            ("any_paper", (KEY, 4), NO_PAPER), ("any_paper", (KEY, 99), NO_PAPER), ("any_paper", (POOR, 0), NO_PAPER),
            ("any_paper", (EMPTY, 0), ()), ("any_paper", (EMPTY, 2), ()), ("any_paper", (EMPTY, 9), ()),
            ("any_paper", (FIFTH, 1), ((0, 2),) * 4),
            ("worst_lot", (KEY, 2), (0, 2)), ("worst_lot", (KEY, 1), NO_PAPER), ("worst_lot", (KEY, 0), NO_PAPER),
            ("worst_lot", (KEY, 4), Fits(lambda told: is_worst_lot(KEY, 4, told))), ("worst_lot", (POOR, 0), ()),
            ("worst_lot", (EMPTY, 2), NO_PAPER),
            ("worst_lot", (NULL, 1), Fits(lambda told: is_worst_lot(NULL, 1, told))),
            ("worst_lot", (FIFTH, 99), Fits(lambda told: is_worst_lot(FIFTH, 99, told))),
        )

    def test_numbers_that_are_none_of_a_cell(self):
        for lot, number in NO_LOTS:
            for name in WITH_LOT:
                check_calls(self, (name, (KEY, lot), no_cell(number)))
            check_calls(self, ("left_messages", (PICTURE, KEY, lot), no_cell(number)))
            check_calls(self, ("left_messages", (PAIR, KEY, lot), UNFIT))
        check_calls(
            self, ("left_messages", (STRIP, LINE, (0,)), UNFIT), ("left_messages", (PICTURE, LINE, ()), UNFIT),
            ("left_messages", (PAIR, LINE, (2,)), no_cell(2)), ("all_paper", (EMPTY, (2,)), no_cell(2)),
        )

    def test_just_at_and_above_the_bound(self):
        for p, most in ((2, 9), (3, 6), (5, 4)):
            key, picture = unit_key(p, most), (9, ((0,) * most,))
            units = [(cell,) for cell in range(most)]
            self.assertEqual(sum(marks_counted(key)), p ** most - 1)
            self.assertEqual(marks_counted(key)[1], most * (p - 1))
            self.assertEqual((most_barred(key), len(shortest_words(key))), (0, most * (p - 1)))
            self.assertEqual((bare_lots(key), least_lots(key)), (tuple(units), tuple(units)))
            self.assertEqual(len(left_messages(picture, key, ())), p ** most)
            self.assertEqual(left_words(key, tuple(range(most))), tuple(brute.rows_of(p, most)[1:]))
            self.assertIs(is_any_paper(key, 0, any_paper(key, 0)), True)
            self.assertIs(is_worst_lot(key, 1, worst_lot(key, 1)), True)
            above, picture = unit_key(p, most + 1), (9, ((0,) * (most + 1),))
            for name in LONE:
                check_calls(self, (name, (above,), TOO_MANY))
            check_calls(
                self, ("any_paper", (above, 0), TOO_MANY), ("worst_lot", (above, 1), TOO_MANY),
                ("left_words", (above, (0,)), TOO_MANY), ("left_words", (above, (most + 1,)), no_cell(most + 1)),
                ("left_messages", (picture, above, (0,)), TOO_MANY), ("left_messages", (PAIR, above, (0,)), UNFIT),
                ("left_messages", (picture, above, (-1,)), no_cell(-1)), ("bars", (above, (0,)), True),
                ("left_many", (above, (0,)), p ** most), ("all_paper", (above, (0,)), NO_PAPER),
                ("barring_word", (above, (0,)), Fits(lambda told: is_barring_word(above, (0,), told))),
            )

    def test_64_cells(self):
        for p, many in ((2, 9), (3, 6), (5, 4)):
            key, picture = brute.mixed_key(p, many, 64, p), brute.mixed_picture(255, 8, 8, p)
            counts, most = marks_counted(key), most_barred(key)
            self.assertEqual(sum(counts), p ** many - 1)
            self.assertEqual(counts[:most + 1], (0,) * (most + 1))
            self.assertEqual(counts[most + 1], len(shortest_words(key)))
            self.assertIs(is_any_paper(key, most, any_paper(key, most)), True)
            self.assertEqual(outcome("any_paper", (key, most + 1)), NO_PAPER)
            worst = worst_lot(key, most + 1)
            self.assertIs(is_worst_lot(key, most + 1, worst), True)
            self.assertEqual((len(worst), outcome("worst_lot", (key, most))), (most + 1, NO_PAPER))
            self.assertIn(worst, least_lots(key))
            self.assertLessEqual(set(least_lots(key)), set(bare_lots(key)))
            word = barring_word(key, worst)
            self.assertLessEqual(set(brute.marks_of(key, word)), set(worst))
            self.assertEqual(left_words(key, worst), tuple(barring_words(key, worst)))
            self.assertEqual(left_many(key, worst) * (len(left_words(key, worst)) + 1), p ** many)
            self.assertEqual(len(left_messages(picture, key, worst)), left_many(key, worst))
            self.assertIs(is_all_paper(key, worst[1:], all_paper(key, worst[1:])), True)


class GuaranteesTest(unittest.TestCase):
    def test_a_barring_word_or_an_all_paper_never_both(self):
        for key in small_keys():
            p, many, columns = key
            size = len(columns)
            for lot in brute.lots_of(size):
                words = barring_words(key, lot)
                self.assertIs(bars(key, lot), words != [])
                known = [word for word in brute.rows_of(p, many) if is_barring_word(key, lot, word)]
                self.assertEqual(known, words)
                self.assertEqual(left_words(key, lot), tuple(words))
                word, paper = outcome("barring_word", (key, lot)), outcome("all_paper", (key, lot))
                if words:
                    self.assertIn(word, words)
                    self.assertEqual(paper, NO_PAPER)
                    continue
                self.assertEqual(word, NO_PAPER)
                self.assertEqual(len(paper), many)
                for place, digits in enumerate(paper):
                    self.assertEqual(brute.read_rests(key, digits), tuple(int(at == place) for at in range(many)))
                    self.assertFalse(any(digits[cell] for cell in lot))
                self.assertIs(is_all_paper(key, lot, paper), True)

    def test_all_papers_beside_all_multiples(self):
        for key in ((2, 1, ((1,), (0,), (1,))), (2, 2, ((1, 0), (1, 1), (0, 1))), (3, 1, ((2,), (1,))), POOR, NULL):
            p, many, columns = key
            everything = brute.rows_of(p, len(columns))
            units = [tuple(int(at == place) for at in range(many)) for place in range(many)]
            for lot in brute.lots_of(len(columns)):
                for paper in itertools.product(everything, repeat=many):
                    right = not any(digits[cell] for digits in paper for cell in lot) and units == [
                        brute.read_rests(key, digits) for digits in paper]
                    self.assertIs(is_all_paper(key, lot, paper), right)

    def test_what_is_left_is_what_hiding_tells_with_these_cells_barred(self):
        for number, key in enumerate(small_keys()):
            p, many, columns = key
            size = len(columns)
            for start, lot in enumerate(brute.lots_of(size)):
                picture = brute.mixed_picture(5, 1, size, number + start)
                prices = tuple(None if cell in lot else 1 for cell in range(size))
                hidden = brute.hidings_of(picture, prices, key)
                left = tuple(message for message, found in hidden.items() if found)
                self.assertEqual(left_messages(picture, key, lot), left)
                self.assertEqual(left_many(key, lot), len(left))
                self.assertIs(bars(key, lot), len(left) < p ** many)
                self.assertIs(always_hides(prices, key), not bars(key, lot))
                seen = brute.read(key, picture)
                turned = {message: brute.sum_by(p, many, (message, seen), (1, p - 1)) for message in hidden}
                alike = [message for message, turn in turned.items()
                         if not any(brute.product_of(p, word, turn) for word in left_words(key, lot))]
                self.assertEqual(list(left), alike)
                if left:
                    self.assertIs(can_hide(picture, prices, key, left[-1]), True)

    def test_numbers_of_marks(self):
        for key in small_keys():
            size = len(key[2])
            weights = {word: len(brute.marks_of(key, word)) for word in brute.words_of(key)}
            counts = list(weights.values())
            self.assertEqual(marks_counted(key), tuple(counts.count(number) for number in range(size + 1)))
            fewest = min(counts, default=None)
            self.assertEqual(shortest_words(key), tuple(word for word in weights if weights[word] == fewest))

    def test_most_barred_beside_all_lots(self):
        for key in small_keys():
            p, many, columns = key
            size = len(columns)
            barring = [lot for lot in brute.lots_of(size) if barring_words(key, lot)]
            safe = [number for number in range(size + 1) if not any(len(lot) == number for lot in barring)]
            most = most_barred(key)
            self.assertEqual(most, max(safe, default=None))
            if many > 0 and most is not None:
                self.assertLessEqual(most, size - many)
            bare = [lot for lot in barring if not any(set(other) < set(lot) for other in barring)]
            self.assertEqual(bare_lots(key), tuple(sorted(bare)))
            fewest = min(map(len, bare), default=0)
            self.assertEqual(least_lots(key), tuple(sorted(lot for lot in bare if len(lot) == fewest)))

    def test_an_any_paper_or_a_worst_lot_never_both(self):
        for key in small_keys():
            size = len(key[2])
            marks = [brute.marks_of(key, word) for word in brute.words_of(key)]
            lots = brute.lots_of(size)
            barring = [lot for lot in lots if barring_words(key, lot)]
            for number in range(size + 2):
                worst = [lot for lot in barring if len(lot) <= number]
                self.assertEqual([lot for lot in lots if is_worst_lot(key, number, lot)], worst)
                paper, lot = outcome("any_paper", (key, number)), outcome("worst_lot", (key, number))
                if worst:
                    self.assertIn(lot, worst)
                    self.assertEqual(paper, NO_PAPER)
                    continue
                self.assertEqual(lot, NO_PAPER)
                self.assertEqual([len(own) for own in paper], [number + 1] * len(marks))
                self.assertTrue(all(set(own) <= set(all_marks) for own, all_marks in zip(paper, marks)))
                self.assertIs(is_any_paper(key, number, paper), True)
                self.assertIs(most_barred(key) is not None and number <= most_barred(key) or not marks, True)


if __name__ == "__main__":
    unittest.main()
