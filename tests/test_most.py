"""[13]: how many touches are needed, if nothing is barred."""

import fractions
import itertools
import unittest

from drycells.most import (
    columns_needed, counted_bound, far_paper, few_columns, is_far_paper, is_few_columns, is_touched_least, mean_touches,
    most_touches, needs_counted, touched_least, touches_needed, worst_messages, worst_rows,
)
from tests import brute
from tests.checks import Fits, Raises, check_calls, check_raises_of_things, check_things, outcome

UNFIT, NO_PAPER, TOO_MANY = Raises("Unfit"), Raises("NoPaper"), Raises("TooMany")
KEY, LINE = (2, 2, ((1, 0), (1, 1), (0, 1), (1, 1))), (3, 2, ((1, 0), (0, 1)))
POOR, FIFTH = (2, 2, ((1, 1), (1, 1))), (5, 2, ((3, 1), (0, 0), (2, 0)))
EMPTY, NULL = (3, 0, ((), ())), (3, 1, ((0,), (0,)))
PICTURE, PAIR = (7, ((3, 4), (6, 1))), (4, ((2, 4),))
LONE = "needs_counted", "most_touches", "mean_touches", "worst_rows"
NO_ROWS = ((1,), (1, 0, 0), (), (1, 3), (-1, 0))
# The least FAR PAPER for what needs two columns of LINE.
NEAR = (((0, 0),), ((0, 0), (0, 1), (0, 2), (1, 0), (2, 0)))


def unit_key(p, many):
    """A KEY of so many rows, each with one column of its own."""
    return (p, many, tuple(tuple(int(at == place) for at in range(many)) for place in range(many)))


def small_keys():
    """Small KEYS of each PRIME: all of some sizes, others as if at random."""
    for p, many, size in ((2, 0, 2), (2, 1, 3), (2, 2, 2), (3, 0, 1), (3, 1, 2), (5, 1, 1)):
        yield from brute.keys_of(p, many, size)
    for p, many, size in ((2, 2, 4), (2, 3, 4), (2, 4, 5), (3, 2, 3), (3, 3, 4), (5, 1, 3), (5, 2, 3)):
        for start in range(10):
            yield brute.mixed_key(p, many, size, start)


def fewest_by_sum(key):
    """For each ROW in reach the fewest CELLS of all MULTIPLES with this sum."""
    found = {}
    for digits in brute.rows_of(key[0], len(key[2])):
        row = brute.read_rests(key, digits)
        found[row] = min(found.get(row, len(digits)), brute.weight_of(digits))
    return found


def is_far_by_words(key, row, sets):
    """Whether sets, of ROWS, are a FAR PAPER, as the document tells it word by word."""
    p, many, columns = key
    if any(list(own) != sorted(set(own)) or row in own for own in sets):
        return False
    if sets and (0,) * many not in sets[0]:
        return False
    for ahead, behind in itertools.pairwise(sets):
        for own, column, digit in itertools.product(ahead, columns, range(p)):
            if tuple((one + digit * other) % p for one, other in zip(own, column)) not in behind:
                return False
    return True


class ThingsTest(unittest.TestCase):
    def test_is_few_columns(self):
        wrong = ((1, 0, 1, 0), (0, 0, 0, 0), (1, 0, 0, 0), (0, 1, 0), (0, 1, 0, 0, 0), (0, 3, 0, 0))
        check_things(self, "is_few_columns", (KEY, (1, 1)), ((0, 1, 0, 0), (0, 0, 0, 1)), wrong)
        check_things(self, "is_few_columns", (LINE, (1, 2)), ((1, 2),), ((2, 1), (1, 0), (4, 2)))
        check_things(self, "is_few_columns", (FIFTH, (0, 2)), ((2, 0, 2),), ((2, 1, 2), (2, 0, 7), (0, 0, 0)))
        check_things(self, "is_few_columns", (POOR, (0, 1)), (), ((1, 0), (0, 1), (1, 1), (0, 0)))
        check_things(self, "is_few_columns", (EMPTY, ()), ((0, 0),), ((0, 1), ()))

    def test_is_far_paper(self):
        wider = (NEAR[0] + ((2, 2),), tuple(own for own in brute.rows_of(3, 2) if own != (1, 1)))
        wrong = (
            (((0, 0),), ((0, 0), (0, 1))), NEAR[:1], NEAR + (NEAR[1],), (NEAR[0], NEAR[1][::-1]),
            (NEAR[0], NEAR[1] * 2),
            (NEAR[0], NEAR[1] + ((1, 1),)), ((), NEAR[1]), (((1, 0),), NEAR[1]), (NEAR[0], NEAR[1][1:]),
            (NEAR[1], NEAR[1]),
            (NEAR[0], NEAR[1] + ((2, 3),)), (NEAR[0], NEAR[1] + ((2,),)), (NEAR[0], NEAR[1] + (7,)), (NEAR[0], None),
        )
        check_things(self, "is_far_paper", (LINE, (1, 1), 2), (NEAR, wider), wrong)
        check_things(self, "is_far_paper", (LINE, (1, 1), 1), (NEAR[:1], NEAR[1:]), (NEAR, (NEAR[1] + ((1, 1),),)))
        check_things(self, "is_far_paper", (LINE, (1, 1), 0), (), (NEAR, NEAR[:1], ((),)), fine=((),))
        check_things(self, "is_far_paper", (LINE, (0, 0), 0), (), (NEAR[:1],), fine=((),))
        check_things(self, "is_far_paper", (LINE, (0, 0), 1), (), (NEAR[:1], (((0, 1),),), ((),)))
        wrong = (NEAR + (tuple(brute.rows_of(3, 2)),), NEAR + NEAR[1:])
        check_things(self, "is_far_paper", (LINE, (1, 1), 3), (), wrong)
        spans = (((0, 0),),) + (((0, 0), (1, 1)),) * 5
        check_things(self, "is_far_paper", (POOR, (0, 1), 6), (spans, spans[1:] + spans[1:2]), (spans[:5], spans[::-1]))
        check_things(self, "is_far_paper", (POOR, (1, 1), 6), (), (spans, spans[1:] + spans[:1]))
        check_things(self, "is_far_paper", (EMPTY, (), 1), (), (((),), (((),),)))

    def test_is_touched_least(self):
        right = ((7, ((2, 4), (6, 1))), (7, ((0, 4), (6, 1))), (7, ((3, 4), (6, 1))))
        wrong = ((7, ((3, 5), (6, 2))), PICTURE, (7, ((2, 6), (6, 1))), (7, ((2, 4, 6, 1),)), (8, right[0][1]))
        check_things(self, "is_touched_least", (PICTURE, KEY, (1, 1)), right[:2], wrong + right[2:])
        check_things(self, "is_touched_least", (PICTURE, KEY, (0, 1)), (PICTURE,), ((7, ((5, 4), (6, 1))),))
        check_things(self, "is_touched_least", (PAIR, POOR, (0, 1)), (), (PAIR, (4, ((3, 4),)), (4, ((3, 3),))))
        wrong = (PAIR, (4, ((2, 3),)))
        check_things(self, "is_touched_least", (PAIR, LINE, (0, 0)), ((4, ((0, 3),)), (4, ((3, 0),))), wrong)
        check_things(self, "is_touched_least", (PAIR, EMPTY, ()), (PAIR,), ((4, ((2, 3),)),))

    def test_errors_whatever_thing_is(self):
        above = unit_key(2, 10)
        for row in NO_ROWS:
            check_raises_of_things(self, "is_few_columns", (LINE, row), UNFIT)
            check_raises_of_things(self, "is_far_paper", (LINE, row, 2), UNFIT)
            check_raises_of_things(self, "is_touched_least", (PAIR, LINE, row), UNFIT)
        check_raises_of_things(self, "is_touched_least", (PICTURE, LINE, (0, 0)), UNFIT)
        check_raises_of_things(self, "is_few_columns", (above, (0,) * 10), TOO_MANY)
        check_raises_of_things(self, "is_far_paper", (above, (0,) * 10, 0), TOO_MANY)
        check_raises_of_things(self, "is_touched_least", ((9, ((1,) * 10,)), above, (1,) * 10), TOO_MANY)
        check_raises_of_things(self, "is_few_columns", (above, (0,) * 9), UNFIT)
        check_raises_of_things(self, "is_far_paper", (above, (2,) * 10, 0), UNFIT)
        check_raises_of_things(self, "is_touched_least", ((9, ((1,) * 9,)), above, (1,) * 10), UNFIT)


class CallsTest(unittest.TestCase):
    def test_needs(self):
        check_calls(
            self, ("columns_needed", (LINE, (0, 0)), 0), ("columns_needed", (LINE, (0, 2)), 1),
            ("columns_needed", (LINE, (2, 2)), 2), ("columns_needed", (POOR, (1, 1)), 1),
            ("columns_needed", (POOR, (1, 0)), None), ("columns_needed", (FIFTH, (1, 2)), 1),
            ("columns_needed", (FIFTH, (2, 2)), 2), ("columns_needed", (EMPTY, ()), 0),
            ("columns_needed", (NULL, (1,)), None),
            ("columns_needed", (NULL, (0,)), 0),
            ("needs_counted", (LINE,), (1, 4, 4)), ("needs_counted", (FIFTH,), (1, 8, 16)),
            ("needs_counted", (POOR,), (1, 1)),
            ("needs_counted", (EMPTY,), (1,)), ("needs_counted", (NULL,), (1,)),
            ("needs_counted", (unit_key(2, 3),), (1, 3, 3, 1)),
            ("most_touches", (KEY,), 1), ("most_touches", (FIFTH,), 2), ("most_touches", (EMPTY,), 0),
            ("most_touches", (NULL,), None), ("most_touches", (POOR,), None), ("most_touches", (unit_key(2, 3),), 3),
            ("mean_touches", (LINE,), (4, 3)), ("mean_touches", (FIFTH,), (8, 5)), ("mean_touches", (EMPTY,), (0, 1)),
            ("mean_touches", (NULL,), None), ("mean_touches", (unit_key(2, 2),), (1, 1)),
            ("mean_touches", (POOR,), None),
            ("worst_rows", (KEY,), ((0, 1), (1, 0), (1, 1))), ("worst_rows", (LINE,), ((1, 1), (1, 2), (2, 1), (2, 2))),
            ("worst_rows", (EMPTY,), ((),)), ("worst_rows", (NULL,), ((1,), (2,))),
            ("worst_rows", (POOR,), ((0, 1), (1, 0))),
        )

    def test_papers(self):
        check_calls(
            self, ("few_columns", (LINE, (1, 2)), (1, 2)), ("few_columns", (POOR, (1, 0)), NO_PAPER),
            ("few_columns", (KEY, (1, 1)), Fits(lambda told: told in ((0, 1, 0, 0), (0, 0, 0, 1)))),
            ("few_columns", (KEY, (0, 0)), (0, 0, 0, 0)), ("few_columns", (FIFTH, (0, 2)), (2, 0, 2)),
            ("few_columns", (EMPTY, ()), (0, 0)), ("few_columns", (NULL, (2,)), NO_PAPER),
            ("far_paper", (LINE, (1, 2)), Fits(lambda told: is_far_by_words(LINE, (1, 2), told) and len(told) == 2)),
            ("far_paper", (LINE, (0, 2)), Fits(lambda told: is_far_by_words(LINE, (0, 2), told) and len(told) == 1)),
            ("far_paper", (LINE, (0, 0)), ()), ("far_paper", (EMPTY, ()), ()), ("far_paper", (POOR, (0, 1)), NO_PAPER),
        )

    def test_pictures(self):
        fives = (5, 1, ((0,), (2,)))
        check_calls(
            self, ("touches_needed", (PICTURE, KEY, (1, 1)), 1), ("touches_needed", (PICTURE, KEY, (0, 1)), 0),
            ("touches_needed", (PAIR, POOR, (1, 1)), 1), ("touches_needed", (PAIR, POOR, (0, 1)), None),
            ("touches_needed", (PAIR, LINE, (0, 0)), 2), ("touches_needed", (PAIR, EMPTY, ()), 0),
            ("touched_least", (PICTURE, KEY, (0, 1)), PICTURE), ("touched_least", (PAIR, LINE, (0, 0)), (4, ((3, 3),))),
            ("touched_least", (PAIR, LINE, (2, 0)), (4, ((2, 3),))), ("touched_least", (PAIR, POOR, (0, 1)), NO_PAPER),
            ("touched_least", (PAIR, fives, (2,)), (4, ((2, 1),))), ("touched_least", (PAIR, EMPTY, ()), PAIR),
            ("worst_messages", (PAIR, POOR), ((0, 1), (1, 0))), ("worst_messages", (PAIR, EMPTY), ((),)),
            ("worst_messages", (PAIR, LINE), ((0, 0), (0, 2), (1, 0), (1, 2))),
            ("worst_messages", (PAIR, NULL), ((1,), (2,))),
        )

    def test_counted_bound(self):
        check_calls(
            self, ("counted_bound", (2, 0, 1), 0), ("counted_bound", (2, 1, 1), 1), ("counted_bound", (2, 2, 1), None),
            ("counted_bound", (2, 3, 3), 3), ("counted_bound", (2, 3, 4), 2), ("counted_bound", (2, 12, 64), 3),
            ("counted_bound", (3, 2, 4), 1), ("counted_bound", (3, 2, 3), 2), ("counted_bound", (5, 2, 6), 1),
            ("counted_bound", (5, 2, 5), 2), ("counted_bound", (5, 12, 12), 12), ("counted_bound", (5, 12, 11), None),
            ("counted_bound", (3, 0, 64), 0), ("counted_bound", (5, 12, 64), 5),
        )

    def test_what_does_not_go_together(self):
        for row in NO_ROWS:
            for name in ("columns_needed", "few_columns", "far_paper"):
                check_calls(self, (name, (LINE, row), UNFIT))
            for name in ("touches_needed", "touched_least"):
                check_calls(self, (name, (PAIR, LINE, row), UNFIT))
        for picture in (PICTURE, (4, ((1,),)), (4, ((1,), (1,), (0,)))):
            check_calls(
                self, ("touches_needed", (picture, LINE, (0, 0)), UNFIT),
                ("touched_least", (picture, LINE, (0, 0)), UNFIT),
                ("worst_messages", (picture, LINE), UNFIT),
            )

    def test_just_at_and_above_the_bound(self):
        for p, most in ((2, 9), (3, 6), (5, 4)):
            key, ones = unit_key(p, most), (1,) * most
            picture = (9, (ones,))
            self.assertEqual(columns_needed(key, ones), most)
            self.assertEqual(most_touches(key), most)
            self.assertEqual(sum(needs_counted(key)), p ** most)
            self.assertEqual(mean_touches(key), fractions.Fraction(most * (p - 1), p).as_integer_ratio())
            self.assertEqual(worst_rows(key), tuple(itertools.product(range(1, p), repeat=most)))
            self.assertEqual(few_columns(key, ones), ones)
            self.assertIs(is_far_paper(key, ones, most, far_paper(key, ones)), True)
            self.assertEqual(touches_needed(picture, key, (0,) * most), most)
            self.assertEqual(len(worst_messages(picture, key)), (p - 1) ** most)
            above, ones = unit_key(p, most + 1), (1,) * (most + 1)
            picture = (9, (ones,))
            for name in LONE:
                check_calls(self, (name, (above,), TOO_MANY))
            for name in ("columns_needed", "few_columns", "far_paper"):
                check_calls(self, (name, (above, ones), TOO_MANY), (name, (above, ones[1:]), UNFIT))
            for name in ("touches_needed", "touched_least"):
                check_calls(
                    self, (name, (picture, above, ones), TOO_MANY), (name, (picture, above, ones[1:]), UNFIT),
                    (name, (PAIR, above, ones), UNFIT),
                )
            check_calls(self, ("worst_messages", (picture, above), TOO_MANY), ("worst_messages", (PAIR, above), UNFIT))

    def test_64_cells(self):
        for p, many in ((2, 9), (3, 6), (5, 4)):
            key, picture = brute.mixed_key(p, many, 64, p), brute.mixed_picture(255, 8, 8, p)
            most = most_touches(key)
            counts = needs_counted(key)
            self.assertEqual((sum(counts), len(counts)), (p ** many, most + 1))
            self.assertGreaterEqual(most, counted_bound(p, many, 64))
            row = worst_rows(key)[-1]
            self.assertEqual((columns_needed(key, row), len(worst_rows(key))), (most, counts[most]))
            self.assertIs(is_few_columns(key, row, few_columns(key, row)), True)
            paper = far_paper(key, row)
            self.assertIs(is_far_paper(key, row, most, paper), True)
            self.assertTrue(is_far_by_words(key, row, paper[:2]))
            message = worst_messages(picture, key)[0]
            shown = touched_least(picture, key, message)
            self.assertEqual(brute.read(key, shown), message)
            touched = len(brute.touched_between(picture, shown))
            self.assertEqual((touched, touches_needed(picture, key, message)), (most, most))
            self.assertIs(is_touched_least(picture, key, message, shown), True)


class GuaranteesTest(unittest.TestCase):
    def test_needs_beside_all_multiples(self):
        for key in small_keys():
            p, many, columns = key
            fewest = fewest_by_sum(key)
            rows = brute.rows_of(p, many)
            for row in rows:
                self.assertEqual(columns_needed(key, row), fewest.get(row))
            counts = list(fewest.values())
            self.assertEqual(needs_counted(key), tuple(counts.count(number) for number in range(max(counts) + 1)))
            lost = tuple(row for row in rows if row not in fewest)
            worst = tuple(row for row in rows if fewest.get(row) == max(counts))
            self.assertEqual(worst_rows(key), lost or worst)
            self.assertEqual(most_touches(key), None if lost else max(counts))
            mean = fractions.Fraction(sum(counts), p ** many)
            self.assertEqual(mean_touches(key), None if lost else (mean.numerator, mean.denominator))
            if not lost:
                self.assertGreaterEqual(max(counts), counted_bound(p, many, len(columns)))

    def test_few_columns_beside_all_multiples(self):
        for key in small_keys():
            p, many, columns = key
            fewest = fewest_by_sum(key)
            everything = brute.rows_of(p, len(columns))
            for row in brute.rows_of(p, many)[::3]:
                right = [digits for digits in everything
                         if brute.read_rests(key, digits) == row and brute.weight_of(digits) == fewest[row]]
                self.assertEqual([digits for digits in everything if is_few_columns(key, row, digits)], right)
                told = outcome("few_columns", (key, row))
                silent = [word for word in brute.words_of(key)
                          if not brute.marks_of(key, word) and brute.product_of(p, word, row)]
                self.assertIs(silent == [], right != [])
                if right:
                    self.assertIn(told, right)
                else:
                    self.assertEqual(told, NO_PAPER)

    def test_far_papers(self):
        for key in small_keys():
            p, many, _ = key
            fewest = fewest_by_sum(key)
            greatest = max(fewest.values())
            spans = [tuple(sorted(row for row in fewest if fewest[row] <= most)) for most in range(greatest + 3)]
            for row in brute.rows_of(p, many)[::3]:
                told = outcome("far_paper", (key, row))
                if row not in fewest:
                    self.assertEqual(told, NO_PAPER)
                    self.assertIs(is_far_paper(key, row, len(spans), tuple(spans)), True)
                    continue
                self.assertEqual(len(told), fewest[row])
                self.assertTrue(is_far_by_words(key, row, told))
                for number in range(len(spans)):
                    self.assertIs(is_far_paper(key, row, number, tuple(spans[:number])), number <= fewest[row])
                    self.assertIs(is_far_paper(key, row, number, told), number == fewest[row])

    def test_all_papers_of_sets_of_the_least_keys(self):
        for p, many, columns in ((2, 1, ((1,),)), (2, 1, ((0,),)), (3, 1, ((1,), (2,))), (2, 2, ((1, 0),)),
                                 (2, 2, ((1, 1), (0, 1)))):
            key = (p, many, columns)
            rows = brute.rows_of(key[0], key[1])
            sets = [own for many in range(len(rows) + 1) for own in itertools.combinations(rows, many)]
            for row, number in itertools.product(rows, range(3)):
                needed = fewest_by_sum(key).get(row)
                found = False
                for paper in itertools.product(sets, repeat=number):
                    right = is_far_by_words(key, row, paper)
                    self.assertIs(is_far_paper(key, row, number, paper), right)
                    found = found or right
                self.assertIs(found, needed is None or needed >= number)

    def test_touches_beside_all_pictures(self):
        for key in small_keys():
            p, many, columns = key
            size = len(columns)
            if size > 3:
                continue
            picture = brute.mixed_picture(4, 1, size, many + size)
            others = list(brute.pictures_of(4, 1, size))
            touched = {other: len(brute.touched_between(picture, other)) for other in others}
            fewest = {}
            for other in others:
                message = brute.read(key, other)
                fewest[message] = min(fewest.get(message, size), touched[other])
            for message in brute.rows_of(p, many)[:6]:
                self.assertEqual(touches_needed(picture, key, message), fewest.get(message))
                right = [other for other in others
                         if brute.read(key, other) == message and touched[other] == fewest[message]]
                if size < 3:
                    known = [other for other in others if is_touched_least(picture, key, message, other)]
                    self.assertEqual(known, right)
                told = outcome("touched_least", (picture, key, message))
                if right:
                    self.assertIn(told, right)
                    self.assertEqual(told, brute.nearest_picture(picture, p, brute.rests_in(p, told)))
                    self.assertIs(is_touched_least(picture, key, message, told), True)
                else:
                    self.assertEqual(told, NO_PAPER)

    def test_a_sum_needs_at_most_as_many_as_both_together(self):
        for key in small_keys():
            p, many, _ = key
            for one, other in itertools.product(brute.rows_of(p, many)[::2], repeat=2):
                needed = [columns_needed(key, row) for row in (one, other, brute.sum_by(p, many, (one, other), (1, 1)))]
                if None not in needed[:2]:
                    self.assertLessEqual(needed[2], needed[0] + needed[1])

    def test_worst_messages_are_the_reading_plus_worst_rows(self):
        for key in small_keys():
            p, many, columns = key
            picture = brute.mixed_picture(6, len(columns), 1, many + 2)
            seen = brute.read(key, picture)
            told = worst_messages(picture, key)
            self.assertEqual(told, tuple(sorted(brute.sum_by(p, many, (seen, row), (1, 1)) for row in worst_rows(key))))
            needed = {message: touches_needed(picture, key, message) for message in brute.rows_of(p, many)}
            for message in told:
                self.assertIn(needed[message], (None, max(own for own in needed.values() if own is not None)))

    def test_counted_bound_beside_all_multiples(self):
        for p, most in ((2, 6), (3, 4), (5, 3)):
            for cells in range(1, most + 1):
                weights = [brute.weight_of(digits) for digits in brute.rows_of(p, cells)]
                for many in range(most + 2):
                    bounds = [r for r in range(cells + 1) if sum(own <= r for own in weights) >= p ** many]
                    self.assertEqual(counted_bound(p, many, cells), bounds[0] if bounds else None)


if __name__ == "__main__":
    unittest.main()
