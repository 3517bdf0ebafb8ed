"""[5]: GRIDS and what they span."""

import unittest

from drycells.grids import (
    bar_row, common_span, fresh_rows, grid_rank, is_bar_row, is_multiples, is_spanned, is_stepped, lead_places,
    multiples_for, relations, same_span, span_count, spanned_rows, stepped_grid, turned_grid, unmarked_rows, ways_count,
)
from tests import brute
from tests.checks import FUNCTIONS, Fits, Raises, check_calls, check_raises_of_things, check_things, outcome, same

UNFIT, NO_PAPER, TOO_MANY = Raises("Unfit"), Raises("NoPaper"), Raises("TooMany")
ROWS = ((1, 2, 0), (2, 1, 0), (0, 1, 1))
GRID_ALONE = (
    "stepped_grid", "lead_places", "grid_rank", "unmarked_rows", "relations", "turned_grid", "fresh_rows", "span_count",
    "spanned_rows",
)
GRID_AND_ROW = ("is_spanned", "multiples_for", "ways_count", "bar_row")
TWO_GRIDS = ("same_span", "common_span")


def unit_grid(many):
    return tuple(tuple(int(at == place) for at in range(many)) for place in range(many))


def small_grids():
    """All small GRIDS of each PRIME, as triples (p, many, rows)."""
    for p, many, most in ((2, 0, 2), (2, 1, 3), (2, 2, 3), (2, 3, 3), (3, 0, 2), (3, 1, 3), (3, 2, 2), (3, 3, 1),
                          (5, 0, 2), (5, 1, 2), (5, 2, 1)):
        for size in range(most + 1):
            for rows in brute.grids_of(p, many, size):
                yield p, many, rows


def fewer_grids():
    """Those of them with few ROWS, for all their pairs."""
    for p, many, rows in small_grids():
        if len(rows) < 3 and p ** (many * len(rows)) < 82:
            yield p, many, rows


def is_stepped_by_words(rows):
    """Whether rows are stepped, as the document tells it word by word."""
    if not all(any(row) for row in rows):
        return False
    leads = [min(place for place, digit in enumerate(row) if digit) for row in rows]
    if leads != sorted(set(leads)):
        return False
    return all(row[lead] == (1 if own is row else 0) for own, lead in zip(rows, leads) for row in rows)


class ThingsTest(unittest.TestCase):
    def test_is_grid(self):
        right = (((0, 1), (1, 1)), ((0, 0),), ((1, 0),) * 70)
        wrong = (((0, 1, 1),), ((0, 1), (1,)), ((0, 2),), ((),), (0, 1), ((0, 1), None), ((0, 1), [1, 1]))
        check_things(self, "is_grid", (2, 2), right, wrong, fine=((),))
        check_things(self, "is_grid", (3, 2), (((2, 1),),), (((3, 1),),), fine=((),))
        check_things(self, "is_grid", (5, 0), (((),),), (((0,),),), fine=((), ((),), ((), ())))
        check_things(self, "is_grid", (5, 1), (((4,), (0,)),), (((5,),),), fine=((),))

    def test_is_stepped(self):
        right = (((1, 0, 2), (0, 1, 1)), ((0, 0, 1),), ((1, 2, 0), (0, 0, 1)), unit_grid(3))
        wrong = (
            ((1, 0, 2), (0, 1, 3)), ((1, 1, 2), (0, 1, 1)), ((0, 1, 1), (1, 0, 2)), ((2, 0, 1),), ((0, 0, 0),),
            ((1, 0, 0), (0, 0, 0)), ((1, 0), (0, 1)), ((1, 0, 0), (1, 0, 0)), ((1, 0, 0), (0, 1)), ROWS,
        )
        check_things(self, "is_stepped", (3, 3), right, wrong, fine=((),))
        check_things(self, "is_stepped", (2, 0), (), (((),),), fine=((),))

    def test_is_stepped_is_so_of_all_small_grids_by_the_words(self):
        for p, many, rows in small_grids():
            self.assertIs(is_stepped(p, many, rows), is_stepped_by_words(rows))

    def test_is_multiples(self):
        right, wrong = ((1, 0, 2), (2, 1, 2), (0, 2, 2)), ((1, 0, 1), (1, 0), (1, 0, 2, 0), (4, 0, 2), (0, 0, 0))
        fine = ((2, 1, 0),)
        check_things(self, "is_multiples", (3, 3, ROWS, (1, 1, 2)), right, wrong)
        check_things(self, "is_multiples", (3, 3, ROWS, (0, 0, 0)), ((0, 0, 0), (1, 1, 0)), ((0, 1, 0), ()))
        check_things(self, "is_multiples", (3, 3, ROWS, (1, 2, 0)), ((1, 0, 0), (2, 1, 0)), ((0, 1, 0), ()), fine)
        check_things(self, "is_multiples", (2, 2, (), (0, 0)), (), ((0,),), fine=((),))
        check_things(self, "is_multiples", (2, 2, (), (0, 1)), (), ((), (0,)))
        check_things(self, "is_multiples", (5, 0, ((),), ()), ((3,),), ((5,), ()))

    def test_is_bar_row(self):
        wrong = ((1, 1, 1), (0, 0, 0), (1, 1), (1, 1, 2, 0), (4, 4, 2), ())
        check_things(self, "is_bar_row", (3, 3, ROWS, (0, 0, 1)), ((1, 1, 2), (2, 2, 1)), wrong)
        check_things(self, "is_bar_row", (3, 3, ROWS, (1, 1, 2)), (), ((1, 1, 2), (0, 0, 0)))
        check_things(self, "is_bar_row", (2, 2, (), (0, 1)), ((0, 1), (1, 1)), ((1, 0), (0, 0)))
        check_things(self, "is_bar_row", (2, 0, (), ()), (), ((), (0,)))

    def test_errors_whatever_thing_is(self):
        for name in ("is_multiples", "is_bar_row"):
            check_raises_of_things(self, name, (3, 3, ROWS + ((1, 1),), (0, 0, 1)), UNFIT)
            check_raises_of_things(self, name, (3, 3, ROWS, (0, 1)), UNFIT)


class CallsTest(unittest.TestCase):
    def test_rows_of_another_length(self):
        for name in GRID_ALONE:
            for rows in (((1, 2),), ((1, 2, 0), (1, 2, 0, 1)), ((),), (ROWS[0], ())):
                check_calls(self, (name, (3, 3, rows), UNFIT))
            check_calls(self, (name, (2, 0, ((0,),)), UNFIT))
        for name in GRID_AND_ROW:
            check_calls(
                self, (name, (3, 3, ROWS + ((1, 1),), (0, 0, 1)), UNFIT), (name, (3, 3, ROWS, (0, 1)), UNFIT),
                (name, (3, 3, ROWS, (0, 0, 1, 0)), UNFIT), (name, (3, 3, (), ()), UNFIT),
                (name, (2, 0, (), (1,)), UNFIT),
                (name, (3, 2, ROWS, (0, 1)), UNFIT),
            )
        for name in TWO_GRIDS:
            check_calls(
                self, (name, (3, 3, ROWS, ((1, 1),)), UNFIT), (name, (3, 3, ((1, 1),), ROWS), UNFIT),
                (name, (3, 3, (), ((),)), UNFIT), (name, (3, 2, ROWS, ROWS), UNFIT),
            )

    def test_no_rows_and_empty_rows(self):
        for p in brute.PRIMES:
            for name in ("stepped_grid", "lead_places", "relations", "fresh_rows"):
                check_calls(self, (name, (p, 3, ()), ()), (name, (p, 0, ()), ()))
            check_calls(
                self, ("grid_rank", (p, 2, ()), 0), ("unmarked_rows", (p, 2, ()), ((1, 0), (0, 1))),
                ("unmarked_rows", (p, 0, ()), ()), ("unmarked_rows", (p, 0, ((),)), ()),
                ("turned_grid", (p, 0, ()), ()),
                ("turned_grid", (p, 0, ((), ())), ()), ("turned_grid", (p, 2, ()), ((), ())),
                ("relations", (p, 0, ((), ())), ((1, 0), (0, 1))), ("span_count", (p, 4, ()), 1),
                ("spanned_rows", (p, 2, ()), [(0, 0)]), ("spanned_rows", (p, 0, ((),)), [()]),
                ("is_spanned", (p, 2, (), (0, 0)), True), ("is_spanned", (p, 2, (), (0, 1)), False),
                ("is_spanned", (p, 0, (), ()), True), ("multiples_for", (p, 2, (), (0, 0)), ()),
                ("multiples_for", (p, 2, (), (0, 1)), NO_PAPER), ("ways_count", (p, 2, (), (0, 0)), 1),
                ("ways_count", (p, 2, (), (1, 0)), 0), ("ways_count", (p, 0, ((), ()), ()), p * p),
                ("bar_row", (p, 2, (), (0, 0)), NO_PAPER), ("bar_row", (p, 0, (), ()), NO_PAPER),
                ("bar_row", (p, 2, (), (0, 1)), Fits(lambda told: told[1] != 0)),
                ("same_span", (p, 2, (), ((0, 0),)), True),
                ("common_span", (p, 2, (), ((1, 0),)), ()), ("fresh_rows", (p, 2, ((0, 0), (0, 0))), ()),
            )

    def test_ordinary_grids(self):
        rows = ((0, 2, 4, 1), (0, 4, 3, 2), (3, 0, 0, 1), (3, 2, 4, 2))
        stepped = ((1, 0, 0, 2), (0, 1, 2, 3))
        check_calls(
            self, ("stepped_grid", (5, 4, rows), stepped), ("lead_places", (5, 4, rows), (0, 1)),
            ("grid_rank", (5, 4, rows), 2), ("fresh_rows", (5, 4, rows), (0, 2)), ("span_count", (5, 4, rows), 25),
            ("unmarked_rows", (5, 4, rows), ((1, 0, 2, 2), (0, 1, 2, 0))), ("ways_count", (5, 4, rows, rows[3]), 25),
            ("relations", (5, 4, rows), ((1, 0, 1, 4), (0, 1, 2, 3))), ("same_span", (5, 4, rows, stepped), True),
            ("same_span", (5, 4, rows, stepped[:1]), False), ("is_spanned", (5, 4, rows, (1, 1, 2, 0)), True),
            ("is_spanned", (5, 4, rows, (1, 1, 2, 1)), False), ("multiples_for", (5, 4, rows, (1, 1, 2, 1)), NO_PAPER),
            ("bar_row", (5, 4, rows, (1, 1, 2, 0)), NO_PAPER),
            ("common_span", (5, 4, rows, ((2, 0, 0, 4),)), stepped[:1]),
            ("turned_grid", (5, 4, rows), ((0, 0, 3, 3), (2, 4, 0, 2), (4, 3, 0, 4), (1, 2, 1, 2))),
            ("fresh_rows", (2, 2, ((0, 0), (1, 1), (1, 1), (0, 1), (1, 0))), (1, 3)),
            ("common_span", (2, 3, unit_grid(3), ((1, 1, 0), (0, 1, 1))), ((1, 0, 1), (0, 1, 1))),
            ("spanned_rows", (2, 3, ((1, 1, 0), (0, 1, 1))), [(0, 0, 0), (0, 1, 1), (1, 0, 1), (1, 1, 0)]),
        )
        check_calls(
            self,
            ("multiples_for", (3, 3, ROWS, (1, 1, 2)), Fits(lambda told: brute.sum_by(3, 3, ROWS, told) == (1, 1, 2))),
            ("bar_row", (3, 3, ROWS, (0, 0, 1)), Fits(lambda told: told in ((1, 1, 2), (2, 2, 1)))),
        )

    def test_spanned_rows_at_and_above_the_bound(self):
        for p, most in ((2, 9), (3, 6), (5, 4)):
            at, above = unit_grid(most), unit_grid(most + 1)
            self.assertEqual(spanned_rows(p, most, at), brute.rows_of(p, most))
            led = [(0,) + row for row in brute.rows_of(p, most)]
            self.assertEqual(spanned_rows(p, most + 1, above[1:] + above[1:]), led)
            self.assertEqual(outcome("spanned_rows", (p, most + 1, above)), TOO_MANY)
            self.assertEqual(outcome("spanned_rows", (p, most + 1, above + ((1,),))), UNFIT)
            self.assertEqual(span_count(p, most + 1, above), p ** (most + 1))

    def test_many_rows_of_many_digits(self):
        for p in brute.PRIMES:
            rows = tuple(
                tuple((3 * at * at + 5 * at * place + place + at // 3) % p for place in range(12)) for at in range(64)
            )
            rank = grid_rank(p, 12, rows)
            self.assertEqual(p ** rank, span_count(p, 12, rows))
            related = relations(p, 12, rows)
            self.assertEqual(len(related), 64 - rank)
            for digits in related:
                self.assertEqual(brute.sum_by(p, 12, rows, digits), (0,) * 12)
            for row in rows:
                self.assertTrue(is_multiples(p, 12, rows, row, multiples_for(p, 12, rows, row)))
                self.assertEqual(ways_count(p, 12, rows, row), p ** (64 - rank))


class GuaranteesTest(unittest.TestCase):
    def test_stepped_grids(self):
        of_span = {}
        for p, many, rows in small_grids():
            told, span = stepped_grid(p, many, rows), brute.span_of(p, many, rows)
            self.assertTrue(is_stepped_by_words(told))
            self.assertEqual(brute.span_of(p, many, told), span)
            self.assertEqual(told, of_span.setdefault((p, many, frozenset(span)), told))
            leads = tuple(min(place for place, digit in enumerate(row) if digit) for row in told)
            self.assertEqual(lead_places(p, many, rows), leads)
            self.assertEqual(grid_rank(p, many, rows), len(told))
            self.assertEqual(span_count(p, many, rows), len(span))
            self.assertEqual(spanned_rows(p, many, rows), sorted(span))

    def test_turned_and_fresh_and_rank(self):
        for p, many, rows in small_grids():
            turned = turned_grid(p, many, rows)
            self.assertEqual(turned, tuple(tuple(row[place] for row in rows) for place in range(many)))
            self.assertEqual(grid_rank(p, len(rows), turned), brute.rank_of(p, many, rows))
            fresh = [own for own, row in enumerate(rows) if row not in brute.span_of(p, many, rows[:own])]
            self.assertEqual(fresh_rows(p, many, rows), tuple(fresh))

    def test_unmarked_rows_and_relations(self):
        for p, many, rows in small_grids():
            rank = brute.rank_of(p, many, rows)
            bars = unmarked_rows(p, many, rows)
            silent = {own for own in brute.rows_of(p, many) if not any(brute.product_of(p, own, row) for row in rows)}
            self.assertTrue(is_stepped_by_words(bars))
            self.assertEqual(brute.span_of(p, many, bars), silent)
            self.assertEqual(len(bars), many - rank)
            related = relations(p, many, rows)
            idle = {own for own in brute.rows_of(p, len(rows)) if not any(brute.sum_by(p, many, rows, own))}
            self.assertTrue(is_stepped_by_words(related))
            self.assertEqual(brute.span_of(p, len(rows), related), idle)
            self.assertEqual(len(related), len(rows) - rank)
            self.assertEqual(stepped_grid(p, many, rows), unmarked_rows(p, many, bars))

    def test_each_row_is_spanned_or_barred_never_both(self):
        for p, many, rows in small_grids():
            span = brute.span_of(p, many, rows)
            for row in brute.rows_of(p, many):
                self.assertIs(is_spanned(p, many, rows, row), row in span)
                self.check_papers(p, many, rows, row, row in span)

    def check_papers(self, p, many, rows, row, spanned):
        for_it, against = outcome("multiples_for", (p, many, rows, row)), outcome("bar_row", (p, many, rows, row))
        if spanned:
            self.assertTrue(is_multiples(p, many, rows, row, for_it))
            self.assertEqual(brute.sum_by(p, many, rows, for_it), row)
            self.assertEqual(against, NO_PAPER)
        else:
            self.assertTrue(is_bar_row(p, many, rows, row, against))
            self.assertEqual([brute.product_of(p, against, own) for own in rows], [0] * len(rows))
            self.assertNotEqual(brute.product_of(p, against, row), 0)
            self.assertEqual(for_it, NO_PAPER)

    def test_all_papers_are_known_and_counted(self):
        for p, many, rows in fewer_grids():
            for row in brute.rows_of(p, many):
                papers = [own for own in brute.rows_of(p, len(rows)) if is_multiples(p, many, rows, row, own)]
                fitting = [own for own in brute.rows_of(p, len(rows)) if brute.sum_by(p, many, rows, own) == row]
                self.assertEqual(papers, fitting)
                self.assertEqual(ways_count(p, many, rows, row), len(fitting))
                bars = [own for own in brute.rows_of(p, many) if is_bar_row(p, many, rows, row, own)]
                barring = [
                    own for own in brute.rows_of(p, many)
                    if brute.product_of(p, own, row) and not any(brute.product_of(p, own, past) for past in rows)
                ]
                self.assertEqual(bars, barring)

    def test_two_grids(self):
        for p, many in ((2, 0), (2, 1), (2, 2), (3, 1), (3, 2), (5, 1)):
            most = 1 if p ** many > 8 else 2
            grids = [rows for size in range(most + 1) for rows in brute.grids_of(p, many, size)]
            spans = {rows: brute.span_of(p, many, rows) for rows in grids}
            for one in grids:
                for other in grids:
                    self.assertIs(same_span(p, many, one, other), spans[one] == spans[other])
                    both = common_span(p, many, one, other)
                    self.assertTrue(is_stepped_by_words(both))
                    self.assertEqual(brute.span_of(p, many, both), spans[one] & spans[other])

    def test_common_span_of_planes(self):
        planes = [rows for rows in brute.grids_of(2, 3, 2) if brute.rank_of(2, 3, rows) == 2]
        for one in planes:
            for other in planes:
                both = brute.span_of(2, 3, one) & brute.span_of(2, 3, other)
                self.assertEqual(brute.span_of(2, 3, common_span(2, 3, one, other)), both)


class ListsTest(unittest.TestCase):
    def test_each_spanned_list_is_new(self):
        one, other = spanned_rows(3, 3, ROWS), spanned_rows(3, 3, ROWS)
        one.clear()
        self.assertEqual(len(other), 9)
        self.assertEqual(spanned_rows(3, 3, ROWS), other)

    def test_what_is_not_specified_is_told_alike_each_time(self):
        for name in ("multiples_for", "bar_row"):
            for row in brute.rows_of(3, 3):
                told = outcome(name, (3, 3, ROWS, row))
                again = outcome(name, (3, 3, [list(own) for own in ROWS], list(row)))
                self.assertTrue(same(told, again))
        self.assertEqual(multiples_for(3, 3, ROWS, (1, 1, 2)), FUNCTIONS["multiples_for"](3, 3, ROWS, row=(1, 1, 2)))
        self.assertEqual(bar_row(3, 3, ROWS, (0, 0, 1)), FUNCTIONS["bar_row"](3, 3, ROWS, row=(0, 0, 1)))


if __name__ == "__main__":
    unittest.main()
