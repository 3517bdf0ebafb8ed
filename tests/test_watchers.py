"""[18]: what a watcher knows of an unknown KEY."""

import itertools
import unittest

from drycells.keys import is_key
from drycells.watchers import (
    cells_to_ask, column_told, columns_told, fits_pairs, how_many_keys, is_odd_row, is_telling, is_told, is_two_keys,
    keys_that_read, least_pairs, needless_pairs, odd_row, some_key, told_apart, told_message, two_keys,
)
from tests import brute
from tests.checks import Fits, Raises, check_calls, check_raises_of_things, check_things, outcome, same

UNFIT, NO_PAPER = Raises("Unfit"), Raises("NoPaper")
FIRST, SECOND, THIRD, LONE = [(4, (own,)) for own in ((1, 0, 3), (2, 1, 1), (1, 1, 4), (1, 0, 0))]
DARK = (9, ((2, 4, 0),))
CAUGHT = ((FIRST, (1, 0)), (SECOND, (1, 1)))
MORE, WRONG = CAUGHT + ((LONE, (1, 1)),), CAUGHT + ((THIRD, (1, 1)),)
TWICE, UNLIKE = CAUGHT + CAUGHT[:1], CAUGHT + ((FIRST, (1, 1)),)
# Of 3 and of 5, each with a pair that the ones ahead tell.
TRIPLES = (((5, ((1, 2),)), (2,)), ((7, ((2,), (4,))), (1,)))
FIVES = (((9, ((1, 7, 5),)), (3, 0)), ((4, ((0, 1, 4),)), (1, 1)))
ABOUT = ("is_told", "told_message", "telling", "two_keys", "least_pairs")
PAIRED = ("some_key", "how_many_keys", "odd_row", "needless_pairs", "columns_told", "cells_to_ask")
# What are no PAIRS of 2.
NO_PAIRS = (
    (), 9, None, "", ((FIRST, ()),), ((FIRST, (1, 2)),), ((FIRST, (1, -1)),), CAUGHT + ((LONE, (1,)),),
    CAUGHT + (((4, ((1, 0),)), (1, 1)),), ((FIRST,),), ((FIRST, (1, 0), ()),), (9,), (None,), ((FIRST, 1),),
    ((FIRST, None),), ((9, (1, 0)),), ((None, (1, 0)),), ((FIRST, (1, 0)), (FIRST, 0)), ((FIRST, ("1", "0")),),
    ((FIRST, ()), (SECOND, ())), (((4, ()), (1,)),), (((4, 9), (1,)),), CAUGHT + (None,),
)
NO_PICTURES = ((4, ((1, 0),)), (4, ((1, 0), (1, 1))), 9, None, "", (4,), (4, 9), (4, (9,)))
KEY = (2, 2, ((1, 0), (0, 1), (0, 0)))


def no_cell(number):
    return Raises("NoCell", number=number)


def fitting(p, pairs):
    """All KEYS that fit."""
    size, many = len(brute.greys_in(pairs[0][0])), len(pairs[0][1])
    return [key for key in brute.keys_of(p, many, size)
            if all(brute.read(key, picture) == message for picture, message in pairs)]


def odd_rows(p, pairs):
    """All ODD ROWS."""
    rows = [brute.rests_in(p, picture) for picture, _ in pairs]
    messages = [message for _, message in pairs]
    return [own for own in brute.rows_of(p, len(pairs)) if not any(brute.sum_by(p, len(rows[0]), rows, own))
            and any(brute.sum_by(p, len(messages[0]), messages, own))]


SIZES = ((2, 3, 1), (2, 3, 2), (2, 2, 2), (3, 2, 1), (3, 2, 2), (5, 2, 1), (5, 1, 2), (2, 4, 1))


def small_pairs(each):
    """Triples (p, pairs, a few PICTURES), as if at random, of KEYS that fit or none; some pairs are there twice."""
    for p, size, many in SIZES:
        for start in range(each):
            key = brute.mixed_key(p, many, size, start)
            pictures = [brute.mixed_picture((4, 5, 9)[own % 3], 1, size, start * 7 + own) for own in range(4)]
            pairs = [(picture, brute.read(key, picture)) for picture in pictures[:start % 4 + 1]]
            if start % 5 == 3:
                pairs.append(pairs[0])
            if start % 5 == 4:
                pairs.append((pairs[0][0], brute.mixed(start, many, range(p))))
            if start % 5 == 2:
                pairs[-1] = (pairs[-1][0], brute.mixed(start + 1, many, range(p)))
            yield p, tuple(pairs), pictures + [(4, ((0,) * size,)), (5, ((5,) * size,))]


class ThingsTest(unittest.TestCase):
    def test_is_odd_row(self):
        wrong = ((0, 0, 0), (1, 1, 0), (1, 1), (1, 1, 1, 0), (1, 1, 2), (1, 1, -1), 1, (0, 0, 1))
        check_things(self, "is_odd_row", (2, WRONG), ((1, 1, 1),), wrong)
        check_things(self, "is_odd_row", (2, CAUGHT), (), ((1, 1), (0, 0), (1, 0), (0, 1)))
        check_things(self, "is_odd_row", (2, UNLIKE), ((1, 0, 1),), ((1, 1, 1), (0, 0, 1)))
        bad = TRIPLES + (((9, ((1, 2),)), (0,)),)
        right = tuple(odd_rows(3, bad))
        self.assertEqual(len(right), 6)
        check_things(self, "is_odd_row", (3, bad), right, ((0, 0, 0), (1, 1, 0)),
                     judge=lambda own: any(same(own, one) for one in right))

    def test_is_telling(self):
        check_things(self, "is_telling", (2, CAUGHT, THIRD), ((1, 1),), ((0, 1), (1, 1, 0), (1,), (1, -1), (3, 1)))
        check_things(self, "is_telling", (2, CAUGHT, LONE), (), brute.rows_of(2, 2))
        check_things(self, "is_telling", (2, CAUGHT, DARK), ((0, 0),), ((1, 0), ()))
        right = ((0, 1, 0), (1, 1, 1), (0, 1, 0))
        check_things(self, "is_telling", (2, TWICE, SECOND), right, ((0, 0, 1), (1, 0, 1)),
                     judge=lambda own: any(same(own, one) for one in right))
        right = ((1, 0), (0, 2), (2, 1))
        check_things(self, "is_telling", (3, TRIPLES, TRIPLES[0][0]), right, ((2, 0), (0, 1), (1, 1)),
                     judge=lambda own: any(same(own, one) for one in right))

    def test_is_two_keys(self):
        keys = fitting(2, CAUGHT)
        pairs = [(one, other) for one in keys for other in keys]
        right = [pair for pair in pairs if brute.read(pair[0], LONE) != brute.read(pair[1], LONE)]
        wrong = [pair for pair in pairs if pair not in right] + [keys[:2], tuple(keys[:3]), tuple(keys[:1]), keys[0]]
        strange = next(key for key in brute.keys_of(2, 2, 3) if key not in keys)

        def judge(own):
            return isinstance(own, tuple) and len(own) == 2 and all(map(is_key, own)) and own in right
        self.assertEqual(len(right), 12)
        check_things(self, "is_two_keys", (2, CAUGHT, LONE), right, wrong + [(keys[0], strange)], judge=judge)
        check_things(self, "is_two_keys", (2, CAUGHT, THIRD), (), right)
        check_things(self, "is_two_keys", (2, CAUGHT, LONE), right[:1], (
            ((2, 2, ((1, 0),) * 2), right[0][0]), ((3,) + right[0][0][1:], right[0][1]), (right[0][0], None),
            ((2, 3, ((1, 0, 0),) * 3), right[0][1])), judge=judge)

    def test_errors_whatever_thing_is(self):
        for pairs in NO_PAIRS:
            check_raises_of_things(self, "is_odd_row", (2, pairs), UNFIT)
            check_raises_of_things(self, "is_telling", (2, pairs, LONE), UNFIT)
            check_raises_of_things(self, "is_two_keys", (2, pairs, LONE), UNFIT)
        for picture in NO_PICTURES:
            for pairs in (CAUGHT, WRONG):
                check_raises_of_things(self, "is_telling", (2, pairs, picture), UNFIT)
                check_raises_of_things(self, "is_two_keys", (2, pairs, picture), UNFIT)
        for pairs in (WRONG, UNLIKE):
            check_raises_of_things(self, "is_telling", (2, pairs, LONE), NO_PAPER)
            check_raises_of_things(self, "is_two_keys", (2, pairs, LONE), NO_PAPER)
        check_raises_of_things(self, "is_odd_row", (4, CAUGHT), UNFIT)


class CallsTest(unittest.TestCase):
    def test_keys_that_fit(self):
        right = fitting(2, CAUGHT)[0]
        check_calls(
            self, ("fits_pairs", (2, CAUGHT, right), True), ("fits_pairs", (2, WRONG, right), False),
            ("fits_pairs", (2, CAUGHT, KEY), False), ("fits_pairs", (2, CAUGHT, (2, 2, right[2][:2])), False),
            ("fits_pairs", (2, CAUGHT, (3,) + right[1:]), False),
            ("fits_pairs", (3, TRIPLES, (3, 1, ((2,), (0,)))), True),
            ("fits_pairs", (2, CAUGHT, (2, 3, ((0, 0, 0),) * 3)), False),
            ("fits_pairs", (3, TRIPLES, (3, 1, ((2,), (1,)))), False), ("fits_pairs", (2, (), right), UNFIT),
            ("some_key", (2, CAUGHT), Fits(lambda told: told in fitting(2, CAUGHT))),
            ("some_key", (2, WRONG), NO_PAPER),
            ("some_key", (2, UNLIKE), NO_PAPER), ("some_key", (2, MORE), fitting(2, MORE)[0]),
            ("some_key", (5, FIVES), Fits(lambda told: told[:2] == (5, 2) and fits_pairs(5, FIVES, told))),
            ("how_many_keys", (2, CAUGHT), 4), ("how_many_keys", (2, WRONG), 0), ("how_many_keys", (2, MORE), 1),
            ("how_many_keys", (2, TWICE), 4), ("how_many_keys", (2, UNLIKE), 0), ("how_many_keys", (3, TRIPLES), 3),
            ("how_many_keys", (5, FIVES), 25), ("how_many_keys", (2, ((DARK, (0,)),)), 8),
            ("how_many_keys", (2, ((DARK, (1,)),)), 0), ("how_many_keys", (2, ((DARK, (0, 0)),) * 8), 64),
        )

    def test_odd_rows_and_needless_pairs(self):
        check_calls(
            self, ("odd_row", (2, WRONG), (1, 1, 1)), ("odd_row", (2, CAUGHT), NO_PAPER),
            ("odd_row", (2, TWICE), NO_PAPER),
            ("odd_row", (2, UNLIKE), (1, 0, 1)), ("odd_row", (2, ((DARK, (0, 1)),)), (1,)),
            ("odd_row", (3, TRIPLES + (((9, ((1, 2),)), (0,)),)), Fits(
                lambda told: told in odd_rows(3, TRIPLES + (((9, ((1, 2),)), (0,)),)))),
            ("needless_pairs", (2, WRONG), (2,)), ("needless_pairs", (2, CAUGHT), ()),
            ("needless_pairs", (2, TWICE), (2,)),
            ("needless_pairs", (2, UNLIKE), (2,)), ("needless_pairs", (3, TRIPLES), (1,)),
            ("needless_pairs", (2, ((DARK, (1,)), (FIRST, (0,)))), (0,)), ("needless_pairs", (5, FIVES), ()),
        )

    def test_what_is_told(self):
        check_calls(
            self, ("is_told", (2, CAUGHT, THIRD), True), ("is_told", (2, CAUGHT, LONE), False),
            ("is_told", (2, CAUGHT, DARK), True), ("is_told", (2, MORE, LONE), True),
            ("is_told", (2, WRONG, THIRD), NO_PAPER),
            ("told_message", (2, CAUGHT, THIRD), (0, 1)), ("told_message", (2, CAUGHT, LONE), NO_PAPER),
            ("told_message", (2, CAUGHT, DARK), (0, 0)), ("told_message", (2, WRONG, DARK), NO_PAPER),
            ("told_message", (3, TRIPLES, (8, ((4,), (8,)))), (2,)),
            ("told_message", (5, FIVES, (9, ((3, 1, 5),))), (4, 0)),
            ("told_message", (5, FIVES, (9, ((3, 1, 6),))), NO_PAPER),
            ("telling", (2, CAUGHT, THIRD), (1, 1)), ("telling", (2, CAUGHT, LONE), NO_PAPER),
            ("telling", (2, CAUGHT, DARK), (0, 0)), ("telling", (2, UNLIKE, DARK), NO_PAPER),
            ("telling", (2, TWICE, FIRST), Fits(lambda told: told in ((1, 0, 0), (0, 0, 1)))),
            ("two_keys", (2, CAUGHT, LONE), Fits(lambda told: is_two_keys(2, CAUGHT, LONE, told))),
            ("two_keys", (2, CAUGHT, THIRD), NO_PAPER), ("two_keys", (2, WRONG, LONE), NO_PAPER),
            ("keys_that_read", (2, CAUGHT, LONE, (1, 1)), 1), ("keys_that_read", (2, CAUGHT, THIRD, (0, 1)), 4),
            ("keys_that_read", (2, CAUGHT, THIRD, (1, 1)), 0), ("keys_that_read", (2, WRONG, THIRD, (1, 1)), NO_PAPER),
            ("keys_that_read", (2, CAUGHT, THIRD, (1,)), UNFIT), ("keys_that_read", (2, CAUGHT, THIRD, (1, 2)), UNFIT),
            ("keys_that_read", (2, WRONG, THIRD, (1, 2)), UNFIT), ("keys_that_read", (2, CAUGHT, THIRD, None), UNFIT),
            ("keys_that_read", (2, CAUGHT, THIRD, 0), UNFIT),
            ("keys_that_read", (5, FIVES, (9, ((0, 0, 1),)), (2, 2)), 1),
        )

    def test_two_pictures(self):
        check_calls(
            self, ("told_apart", (2, CAUGHT, FIRST, THIRD), "unlike"), ("told_apart", (2, CAUGHT, FIRST, LONE), "open"),
            ("told_apart", (2, CAUGHT, LONE, LONE), "alike"),
            ("told_apart", (2, CAUGHT, LONE, (9, ((1,), (2,), (8,)))), "alike"),
            ("told_apart", (2, CAUGHT, DARK, DARK), "alike"), ("told_apart", (2, WRONG, DARK, DARK), NO_PAPER),
            ("told_apart", (2, (CAUGHT[0], (SECOND, (0, 0))), SECOND, DARK), "alike"),
            ("told_apart", (2, CAUGHT, FIRST, (4, ((1,),))), UNFIT),
            ("told_apart", (2, WRONG, (4, ((1,),)), FIRST), UNFIT),
            ("told_apart", (3, TRIPLES, (5, ((1, 0),)), (5, ((3, 1),))), "unlike"),
            ("told_apart", (5, FIVES, (9, ((1, 2, 1),)), (9, ((5, 0, 1),))), "unlike"),
            ("told_apart", (5, FIVES, (9, ((1, 2, 1),)), (9, ((5, 0, 2),))), "open"),
        )

    def test_columns(self):
        check_calls(
            self, ("columns_told", (2, CAUGHT), ()), ("columns_told", (2, MORE), (0, 1, 2)),
            ("columns_told", (2, WRONG), NO_PAPER),
            ("column_told", (2, MORE, 2), (0, 1)), ("column_told", (2, MORE, 0), (1, 1)),
            ("column_told", (2, MORE, 1), (1, 0)),
            ("column_told", (2, CAUGHT, 0), NO_PAPER), ("column_told", (2, WRONG, 0), NO_PAPER),
            ("column_told", (2, MORE + ((FIRST, (1, 1)),), 2), NO_PAPER),
            ("column_told", (2, WRONG, 3), no_cell(3)), ("column_told", (2, CAUGHT, -1), no_cell(-1)),
            ("column_told", (2, CAUGHT, None), no_cell(None)), ("column_told", (2, (), 3), UNFIT),
            ("columns_told", (5, FIVES), ()), ("columns_told", (5, FIVES[:1] + (((4, ((0, 3, 0),)), (1, 1)),)), (0, 1)),
            ("column_told", (5, FIVES[:1] + (((4, ((0, 3, 0),)), (1, 1)),), 1), (2, 2)),
            ("column_told", (5, FIVES[:1] + (((4, ((0, 3, 0),)), (1, 1)),), 2), NO_PAPER),
            ("cells_to_ask", (2, CAUGHT), (0,)), ("cells_to_ask", (2, MORE), ()),
            ("cells_to_ask", (2, WRONG), NO_PAPER),
            ("cells_to_ask", (2, ((DARK, (0,)),)), (0, 1, 2)), ("cells_to_ask", (2, ((LONE, (0,)),)), (1, 2)),
            ("cells_to_ask", (3, TRIPLES), (0,)), ("cells_to_ask", (5, FIVES), (0,)),
        )

    def test_least_pairs(self):
        check_calls(
            self, ("least_pairs", (2, CAUGHT, THIRD), (0, 1)), ("least_pairs", (2, CAUGHT, SECOND), (1,)),
            ("least_pairs", (2, CAUGHT, DARK), ()), ("least_pairs", (2, CAUGHT, LONE), NO_PAPER),
            ("least_pairs", (2, WRONG, DARK), NO_PAPER), ("least_pairs", (2, TWICE, FIRST), (0,)),
            ("least_pairs", (2, CAUGHT + ((THIRD, (0, 1)),), THIRD), (2,)),
            ("least_pairs", (3, TRIPLES, TRIPLES[1][0]), (0,)),
            ("least_pairs", (2, CAUGHT[:1] * 7 + CAUGHT[1:], THIRD), (0, 7)),
        )

    def test_what_are_no_pairs(self):
        for pairs in NO_PAIRS:
            check_calls(self, *[(name, (2, pairs), UNFIT) for name in PAIRED])
            check_calls(self, *[(name, (2, pairs, LONE), UNFIT) for name in ABOUT])
            check_calls(self, ("fits_pairs", (2, pairs, KEY), UNFIT), ("column_told", (2, pairs, 9), UNFIT),
                        ("told_apart", (2, pairs, LONE, LONE), UNFIT),
                        ("keys_that_read", (2, pairs, LONE, (1, 0)), UNFIT))
        for picture in NO_PICTURES:
            for pairs in (CAUGHT, WRONG):
                check_calls(self, *[(name, (2, pairs, picture), UNFIT) for name in ABOUT])
                check_calls(self, ("told_apart", (2, pairs, picture, LONE), UNFIT),
                            ("told_apart", (2, pairs, LONE, picture), UNFIT),
                            ("keys_that_read", (2, pairs, picture, (1, 0)), UNFIT))
        for p in (4, 7, 1, None):
            check_calls(self, *[(name, (p, CAUGHT), UNFIT) for name in PAIRED])


class GuaranteesTest(unittest.TestCase):
    def test_a_key_that_fits_or_an_odd_row(self):
        for p, pairs, _ in small_pairs(20):
            keys, rows = fitting(p, pairs), odd_rows(p, pairs)
            size, many = len(brute.greys_in(pairs[0][0])), len(pairs[0][1])
            self.assertNotEqual(keys == [], rows == [])
            self.assertEqual(how_many_keys(p, pairs), len(keys))
            self.assertTrue(outcome("some_key", (p, pairs)) in (keys or [NO_PAPER]))
            self.assertTrue(outcome("odd_row", (p, pairs)) in (rows or [NO_PAPER]))
            self.assertEqual([own for own in brute.rows_of(p, len(pairs)) if is_odd_row(p, pairs, own)], rows)
            self.assertEqual([own for own in brute.keys_of(p, many, size) if fits_pairs(p, pairs, own)], keys)
            rests = [brute.rests_in(p, picture) for picture, _ in pairs]
            needless = tuple(own for own in range(len(pairs)) if rests[own] in brute.span_of(p, size, rests[:own]))
            self.assertEqual(needless_pairs(p, pairs), needless)
            if keys:
                self.assertEqual(len(keys), p ** ((size - len(pairs) + len(needless)) * many))

    def test_what_is_told_beside_all_keys(self):
        for p, pairs, pictures in small_pairs(20):
            keys, size = fitting(p, pairs), len(brute.greys_in(pairs[0][0]))
            rests = [brute.rests_in(p, picture) for picture, _ in pairs]
            for picture in pictures:
                args = (p, pairs, picture)
                if not keys:
                    self.assertEqual([outcome(name, args) for name in ABOUT], [NO_PAPER] * len(ABOUT))
                    continue
                seen = [brute.read(key, picture) for key in keys]
                told = len(set(seen)) == 1
                self.assertIs(is_told(*args), told)
                self.assertEqual(outcome("told_message", args), seen[0] if told else NO_PAPER)
                own = brute.rests_in(p, picture)
                tellings = [row for row in brute.rows_of(p, len(pairs)) if brute.sum_by(p, size, rests, row) == own]
                self.assertEqual(told, tellings != [])
                self.assertEqual([row for row in brute.rows_of(p, len(pairs)) if is_telling(*args, row)], tellings)
                self.assertTrue(outcome("telling", args) in (tellings or [NO_PAPER]))
                if told:
                    self.assertEqual(outcome("two_keys", args), NO_PAPER)
                else:
                    one, other = two_keys(*args)
                    self.assertTrue(one in keys and other in keys)
                    self.assertNotEqual(brute.read(one, picture), brute.read(other, picture))
                for one, other in itertools.product(keys[:3], keys[-3:]):
                    self.assertIs(is_two_keys(*args, (one, other)),
                                  brute.read(one, picture) != brute.read(other, picture))
                for message in brute.rows_of(p, len(pairs[0][1])):
                    self.assertEqual(keys_that_read(*args, message), seen.count(message))
                enough = [lot for lot in brute.lots_of(len(pairs))
                          if own in brute.span_of(p, size, [rests[number] for number in lot])]
                self.assertEqual(outcome("least_pairs", args), enough[0] if enough else NO_PAPER)
                for other in pictures:
                    apart = {brute.read(key, picture) == brute.read(key, other) for key in keys}
                    word = "open" if len(apart) == 2 else "alike" if True in apart else "unlike"
                    self.assertEqual(told_apart(*args, other), word)

    def test_columns_beside_all_keys(self):
        for p, pairs, _ in small_pairs(20):
            keys, size = fitting(p, pairs), len(brute.greys_in(pairs[0][0]))
            if not keys:
                self.assertEqual(outcome("columns_told", (p, pairs)), NO_PAPER)
                continue
            columns = [{key[2][cell] for key in keys} for cell in range(size)]
            self.assertEqual(columns_told(p, pairs), tuple(cell for cell in range(size) if len(columns[cell]) == 1))
            for cell in range(size):
                one = columns[cell].pop() if len(columns[cell]) == 1 else NO_PAPER
                self.assertEqual(outcome("column_told", (p, pairs, cell)), one)
            asked = next(lot for lot in brute.lots_of(size)
                         if len({tuple(key[2][cell] for cell in lot) for key in keys}) == len(keys))
            self.assertEqual(cells_to_ask(p, pairs), asked)

    def test_many_cells(self):
        for p, many in ((2, 12), (3, 6), (5, 4)):
            key = brute.mixed_key(p, many, 64, p)
            pictures = [brute.mixed_picture(255, 8, 8, p + own) for own in range(8)]
            pairs = tuple((picture, brute.read(key, picture)) for picture in pictures)
            self.assertIs(fits_pairs(p, pairs, key), True)
            self.assertIs(fits_pairs(p, pairs, some_key(p, pairs)), True)
            self.assertEqual(how_many_keys(p, pairs), p ** (56 * many))
            self.assertEqual(len(cells_to_ask(p, pairs)), 56)
            sums = tuple(sum(greys) % 256 % p + p for greys in zip(*map(brute.greys_in, pictures[:3])))
            both = (255, tuple(sums[row * 8:row * 8 + 8] for row in range(8)))
            other = brute.mixed_picture(255, 8, 8, 99)
            self.assertIs(is_two_keys(p, pairs, other, two_keys(p, pairs, other)), True)
            if p == 2:
                self.assertEqual(least_pairs(p, pairs, both), (0, 1, 2))
                self.assertEqual(told_message(p, pairs, both), brute.read(key, both))
            wrong = pairs[:7] + ((both, brute.mixed(p, many, range(p))),)
            row = outcome("odd_row", (p, wrong))
            self.assertTrue(row == NO_PAPER or is_odd_row(p, wrong, row))
            self.assertIs(row == NO_PAPER, how_many_keys(p, wrong) > 0)
            self.assertEqual(odd_row(p,
                                     pairs[:7] + ((pictures[0], tuple((own + 1) % p for own in pairs[0][1])),))[1:7],
                                     (0,) * 6)


if __name__ == "__main__":
    unittest.main()
