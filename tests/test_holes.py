"""[16]: what is read of a guarded PICTURE with holes in it."""

import itertools
import unittest

from drycells.grids import is_stepped, spanned_rows
from drycells.guards import is_false_forging, least_false
from drycells.holes import (
    digits_read, greatest_lots, hole_forging, is_hole_forging, is_lot_map, is_read_paper, is_two_alike, lot_map,
    may_lose, may_lose_any, message_read, messages_left, most_lost, read_paper, told_product, two_alike, word_read,
    words_read,
)
from tests import brute
from tests.checks import Fits, Raises, check_calls, check_raises_of_things, check_things, outcome

UNFIT, NO_PAPER, TOO_MANY = Raises("Unfit"), Raises("NoPaper"), Raises("TooMany")
KEY, GUARD = (2, 1, ((1,), (0,), (0,))), (2, 2, ((1, 0), (1, 1), (0, 1)))
CALM, SEEN, FAR = (7, ((2, 4, 6),)), (7, ((2, 5, 6),)), (7, ((1, 5, 7),))
TWO, TWO_GUARD = (3, 2, ((1, 0), (0, 1), (1, 1), (0, 2))), (3, 1, ((1,), (1,), (1,), (1,)))
PAGE = (5, ((1, 2), (0, 3)))
FIFTH, FIFTH_GUARD, PAIR = (5, 1, ((3,), (1,))), (5, 1, ((1,), (2,))), (4, ((2, 4),))
NO_GUARD, NO_KEY = (2, 0, ((), (), ())), (2, 0, ((), (), ()))
ALL = (0, 1, 2)
# With how many further arguments each function comes behind key, guard.
WITH_LOST = ("words_read", "digits_read", "may_lose", "lot_map")
WITH_WORD = ("word_read", "read_paper", "hole_forging")
UNFITTING = (
    (KEY, TWO_GUARD), (KEY, FIFTH_GUARD), (TWO, FIFTH_GUARD), (KEY, GUARD[:2] + (GUARD[2][:2],)),
    (KEY, GUARD[:2] + (GUARD[2] * 2,)), (KEY, (3, 1, ((1,), (0,), (1,)))),
)
NO_LOTS = ((3,), (-1,), (0, 3), (1, 0), (1, 1), (0, 1, 2, 3))
NO_WORDS = ((0,), (), (1, 0), (2,), (-1,))


def small_pairs():
    """Small KEYS with guards, as if at random, some with no rows."""
    for p, many, rows, size in ((2, 0, 1, 2), (2, 1, 0, 3), (2, 1, 1, 3), (2, 2, 2, 4), (2, 2, 3, 4), (3, 1, 1, 3),
                                (3, 2, 1, 3), (3, 1, 2, 4), (5, 1, 1, 2), (5, 1, 1, 3)):
        for start in range(5):
            yield brute.mixed_key(p, many, size, start + 9), brute.mixed_key(p, rows, size, start + 70)
    yield KEY, GUARD
    yield TWO, TWO_GUARD
    yield (2, 1, ((1,), (1,), (0,))), (2, 2, ((1, 0), (1, 0), (0, 0)))


def calm_rests(key, guard):
    """All ROWS of RESTS that the guard reads as zeros."""
    return [digits for digits in brute.rows_of(key[0], len(key[2])) if not any(brute.read_rests(guard, digits))]


def groups_alike(key, guard, lost):
    """The lists of those of calm_rests that are alike but for lost."""
    found = {}
    for digits in calm_rests(key, guard):
        found.setdefault(tuple(digit for cell, digit in enumerate(digits) if cell not in lost), []).append(digits)
    return list(found.values())


def is_read_by_words(key, guard, lost, word):
    """Whether the product is the same for any two of those."""
    return all(len({brute.product_of(key[0], word, brute.read_rests(key, digits)) for digits in group}) == 1
               for group in groups_alike(key, guard, lost))


def papers_of(key, guard, lost, word):
    """All READ PAPERS."""
    p = key[0]
    return [row for row in brute.rows_of(p, guard[1]) if all(
        brute.product_of(p, row, guard[2][cell]) == brute.product_of(p, word, key[2][cell]) for cell in lost)]


def unit_words(key):
    return [tuple(int(at == place) for at in range(key[1])) for place in range(key[1])]


def hole_forgings(key, guard, lost, word):
    """All FORGINGS that hole_forging may tell."""
    found = []
    for digits in calm_rests(key, guard):
        forging = tuple((cell, digit) for cell, digit in enumerate(digits) if digit)
        if {cell for cell, _ in forging} <= set(lost) and brute.product_of(key[0], word, brute.read_rests(key, digits)):
            found.append(forging)
    return found


def are_two_alike(key, guard, lost, word, pair):
    """Whether pair, of PICTURES, is as two_alike tells it, word by word."""
    one, other = pair
    if len({(own[0], len(own[1]), len(own[1][0])) for own in pair}) > 1:
        return False
    if len(brute.greys_in(one)) != len(key[2]) or any(brute.read(guard, one)) or any(brute.read(guard, other)):
        return False
    products = {brute.product_of(key[0], word, brute.read(key, own)) for own in pair}
    return set(brute.touched_between(one, other)) <= set(lost) and len(products) == 2


class ThingsTest(unittest.TestCase):
    def test_is_read_paper(self):
        wrong = ((1, 0), (0, 0), (1,), (1, 1, 0), (1, 3))
        check_things(self, "is_read_paper", (KEY, GUARD, (0, 1), (1,)), ((1, 1),), wrong)
        check_things(self, "is_read_paper", (KEY, GUARD, ALL, (1,)), (), ((1, 1), (1, 0), (0, 1), (0, 0)))
        check_things(self, "is_read_paper", (KEY, GUARD, (0,), (1,)), ((1, 0), (1, 1)), ((0, 1), ()))
        check_things(self, "is_read_paper", (KEY, NO_GUARD, (1, 2), (1,)), (), ((0,),), fine=((),))
        check_things(self, "is_read_paper", (KEY, NO_GUARD, (0,), (1,)), (), ((), (0,)))
        check_things(self, "is_read_paper", (TWO, TWO_GUARD, (1, 2), (0, 2)), ((2,),), ((1,), (0,), (5,)))
        check_things(self, "is_read_paper", (FIFTH, FIFTH_GUARD, (0, 1), (1,)), ((3,),), ((1,), (8,)))

    def test_is_hole_forging(self):
        right = ((0, 1), (1, 1), (2, 1))
        wrong = ((), ((0, 1),), right[::-1], right[:2])
        check_things(self, "is_hole_forging", (KEY, GUARD, ALL, (1,)), (right,), wrong)
        check_things(self, "is_hole_forging", (KEY, GUARD, (0, 1), (1,)), (), (right, right[:2], ()))
        turns = (((0, 1),), ((0, 1), (2, 1)))
        check_things(self, "is_hole_forging", (KEY, NO_GUARD, (0, 2), (1,)), turns, (((2, 1),), right))
        turns, wrong = (((0, 1), (1, 2)), ((0, 2), (1, 1))), (((0, 1), (1, 1)), ((0, 1), (2, 2)))
        check_things(self, "is_hole_forging", (TWO, TWO_GUARD, (0, 1), (1, 0)), turns, wrong)
        check_things(self, "is_hole_forging", (TWO, TWO_GUARD, (0, 1), (1, 1)), (), turns)

    def test_is_two_alike(self):
        pair = (CALM, FAR)
        wrong = (
            (CALM, CALM), (CALM, SEEN), (CALM,), (CALM, FAR, FAR), [CALM, FAR], (CALM, (8, FAR[1])), (CALM, None),
            (PAIR, PAIR),
            (CALM, (7, ((1,), (5,), (7,)))), (SEEN, FAR), (CALM, (7, ((4, 4, 6),))),
        )
        check_things(self, "is_two_alike", (KEY, GUARD, ALL, (1,)), (pair, pair[::-1]), wrong)
        check_things(self, "is_two_alike", (KEY, GUARD, (0, 1), (1,)), (), wrong + (pair,))
        pair = ((4, ((0,), (0,), (0,), (0,))), (4, ((4,), (2,), (0,), (0,))))
        check_things(self, "is_two_alike", (TWO, TWO_GUARD, (0, 1), (1, 0)), (pair,), (pair[:1] * 2,))
        check_things(self, "is_two_alike", (TWO, TWO_GUARD, (0, 1), (2, 2)), (), (pair,))

    def test_is_lot_map(self):
        check_things(self, "is_lot_map", (KEY, GUARD, (1, 2)), (((0, 0),),), (((1, 0),), ((0, 0), (0, 0)), (), ((0,),)))
        check_things(self, "is_lot_map", (KEY, GUARD, ALL), (), (((0, 0),), ((1, 0),), ((1, 1),), ((0, 1),)))
        check_things(self, "is_lot_map", (NO_KEY, GUARD, ALL), (), (((),), ((0, 0),)), fine=((),))
        check_things(self, "is_lot_map", (TWO, TWO_GUARD, (2,)), (((1,), (1,)),), (((1,), (2,)), ((1,),), ((1, 1),)))
        check_things(self, "is_lot_map", (KEY, NO_GUARD, (1,)), (), ((), ((0,),)), fine=(((),),))

    def test_errors_whatever_thing_is(self):
        for pair in UNFITTING:
            for name in ("is_read_paper", "is_hole_forging", "is_two_alike"):
                check_raises_of_things(self, name, pair + ((0,), (1,)), UNFIT)
            check_raises_of_things(self, "is_lot_map", pair + ((0,),), UNFIT)
        for lost in NO_LOTS:
            for name in ("is_read_paper", "is_hole_forging", "is_two_alike"):
                check_raises_of_things(self, name, (KEY, GUARD, lost, (1,)), UNFIT)
            check_raises_of_things(self, "is_lot_map", (KEY, GUARD, lost), UNFIT)
        for word in NO_WORDS:
            for name in ("is_read_paper", "is_hole_forging", "is_two_alike"):
                check_raises_of_things(self, name, (KEY, GUARD, (0,), word), UNFIT)


class CallsTest(unittest.TestCase):
    def test_words(self):
        check_calls(
            self, ("word_read", (KEY, GUARD, (), (1,)), True), ("word_read", (KEY, GUARD, (0, 1), (1,)), True),
            ("word_read", (KEY, GUARD, ALL, (1,)), False), ("word_read", (KEY, NO_GUARD, (1, 2), (1,)), True),
            ("word_read", (KEY, NO_GUARD, (0,), (1,)), False), ("word_read", (TWO, TWO_GUARD, (0, 1), (1, 0)), False),
            ("word_read", (TWO, TWO_GUARD, (0, 1), (1, 1)), True),
            ("word_read", (FIFTH, FIFTH_GUARD, (0, 1), (4,)), True),
            ("read_paper", (KEY, GUARD, (0, 1), (1,)), (1, 1)), ("read_paper", (KEY, GUARD, ALL, (1,)), NO_PAPER),
            ("read_paper", (KEY, GUARD, (0,), (1,)), Fits(lambda told: told in ((1, 0), (1, 1)))),
            ("read_paper", (TWO, TWO_GUARD, (1, 2), (0, 2)), (2,)), ("read_paper", (KEY, NO_GUARD, (1,), (1,)), ()),
            ("words_read", (KEY, GUARD, (0,)), ((1,),)), ("words_read", (KEY, GUARD, ALL), ()),
            ("words_read", (TWO, TWO_GUARD, ()), ((1, 0), (0, 1))), ("words_read", (TWO, TWO_GUARD, (0, 1)), ((1, 1),)),
            ("words_read", (NO_KEY, GUARD, ALL), ()), ("words_read", (FIFTH, FIFTH_GUARD, (0, 1)), ((1,),)),
            ("digits_read", (KEY, GUARD, (0, 2)), (0,)), ("digits_read", (KEY, GUARD, ALL), ()),
            ("digits_read", (TWO, TWO_GUARD, (0, 1)), ()), ("digits_read", (TWO, TWO_GUARD, (1, 2)), (1,)),
            ("digits_read", (TWO, TWO_GUARD, (2,)), (0, 1)), ("digits_read", (NO_KEY, NO_GUARD, ALL), ()),
        )

    def test_what_is_read(self):
        check_calls(
            self, ("told_product", (KEY, GUARD, CALM, (0, 1), (1,)), 0),
            ("told_product", (KEY, GUARD, FAR, (0, 1), (1,)), 1),
            ("told_product", (KEY, GUARD, (7, ((0, 0, 7),)), (0, 1), (1,)), 1),
            ("told_product", (KEY, GUARD, SEEN, (0,), (1,)), NO_PAPER),
            ("told_product", (KEY, GUARD, CALM, ALL, (1,)), NO_PAPER),
            ("told_product", (KEY, GUARD, SEEN, (), (1,)), NO_PAPER), ("told_product", (KEY, GUARD, FAR, (), (1,)), 1),
            ("told_product", (KEY, NO_GUARD, FAR, (1, 2), (1,)), 1),
            ("told_product", (KEY, NO_GUARD, FAR, (0,), (1,)), NO_PAPER),
            ("told_product", (FIFTH, FIFTH_GUARD, PAIR, (0, 1), (2,)), 0),
            ("told_product", (TWO, TWO_GUARD, PAGE, (1, 2), (0, 1)), 2),
            ("message_read", (KEY, GUARD, SEEN, (1,)), (0,)), ("message_read", (KEY, GUARD, SEEN, ALL), (None,)),
            ("message_read", (KEY, GUARD, SEEN, (0,)), NO_PAPER), ("message_read", (KEY, GUARD, FAR, (0, 2)), (1,)),
            ("message_read", (TWO, TWO_GUARD, PAGE, (1, 2)), (None, 2)),
            ("message_read", (NO_KEY, GUARD, SEEN, ()), NO_PAPER),
            ("message_read", (NO_KEY, GUARD, SEEN, (1,)), ()),
            ("message_read", (TWO, TWO_GUARD, PAGE, (0, 1)), (None, None)),
            ("messages_left", (KEY, GUARD, SEEN, ALL), 2), ("messages_left", (KEY, GUARD, SEEN, (0,)), 0),
            ("messages_left", (KEY, GUARD, SEEN, (1,)), 1), ("messages_left", (KEY, GUARD, CALM, ()), 1),
            ("messages_left", (KEY, GUARD, SEEN, ()), 0), ("messages_left", (NO_KEY, NO_GUARD, SEEN, ALL), 1),
            ("messages_left", (TWO, TWO_GUARD, PAGE, (0, 1)), 3),
            ("messages_left", (TWO, TWO_GUARD, PAGE, (0, 1, 2, 3)), 9),
        )

    def test_forgings(self):
        check_calls(
            self, ("hole_forging", (KEY, GUARD, ALL, (1,)), ((0, 1), (1, 1), (2, 1))),
            ("hole_forging", (KEY, GUARD, (0, 1), (1,)), NO_PAPER), ("hole_forging", (KEY, GUARD, (), (1,)), NO_PAPER),
            ("hole_forging", (KEY, NO_GUARD, (0,), (1,)), ((0, 1),)),
            ("hole_forging", (TWO, TWO_GUARD, (0, 1), (1, 0)),
             Fits(lambda told: told in hole_forgings(TWO, TWO_GUARD, (0, 1), (1, 0)))),
            ("two_alike", (KEY, GUARD, SEEN, ALL, (1,)), Fits(lambda told: are_two_alike(KEY, GUARD, ALL, (1,), told))),
            ("two_alike", (KEY, GUARD, SEEN, (0, 1), (1,)), NO_PAPER),
            ("two_alike", (KEY, NO_GUARD, SEEN, (1, 2), (1,)), NO_PAPER),
            ("two_alike", (TWO, TWO_GUARD, PAGE, (0, 1), (1, 0)),
             Fits(lambda told: are_two_alike(TWO, TWO_GUARD, (0, 1), (1, 0), told) and told[0][0] == 5)),
        )

    def test_lots(self):
        check_calls(
            self, ("may_lose", (KEY, GUARD, (0, 1)), True), ("may_lose", (KEY, GUARD, ALL), False),
            ("may_lose", (NO_KEY, NO_GUARD, ALL), True), ("may_lose", (TWO, TWO_GUARD, (2,)), True),
            ("may_lose", (TWO, TWO_GUARD, (0, 1)), False), ("may_lose", (KEY, NO_GUARD, (1, 2)), True),
            ("lot_map", (KEY, GUARD, (1, 2)), ((0, 0),)), ("lot_map", (KEY, GUARD, ALL), NO_PAPER),
            ("lot_map", (NO_KEY, GUARD, ALL), ()), ("lot_map", (TWO, TWO_GUARD, (2,)), ((1,), (1,))),
            ("lot_map", (KEY, NO_GUARD, (1,)), ((),)), ("lot_map", (KEY, NO_GUARD, (0,)), NO_PAPER),
            ("lot_map", (TWO, TWO_GUARD, ()), Fits(lambda told: is_lot_map(TWO, TWO_GUARD, (), told))),
            ("may_lose_any", (KEY, GUARD, 0), True), ("may_lose_any", (KEY, GUARD, 2), True),
            ("may_lose_any", (KEY, GUARD, 3), False),
            ("may_lose_any", (KEY, NO_GUARD, 1), False), ("may_lose_any", (NO_KEY, NO_GUARD, 3), True),
            ("may_lose_any", (FIFTH, FIFTH_GUARD, 2), True),
            ("most_lost", (KEY, GUARD), 2), ("most_lost", (KEY, NO_GUARD), 0), ("most_lost", (NO_KEY, NO_GUARD), None),
            ("most_lost", (FIFTH, FIFTH_GUARD), None), ("most_lost", (TWO, TWO_GUARD), 1),
            ("greatest_lots", (KEY, GUARD), [(0, 1), (0, 2), (1, 2)]), ("greatest_lots", (KEY, NO_GUARD), [(1, 2)]),
            ("greatest_lots", (NO_KEY, NO_GUARD), [ALL]), ("greatest_lots", (FIFTH, FIFTH_GUARD), [(0, 1)]),
            ("greatest_lots", (TWO, TWO_GUARD), [(0,), (1,), (2,), (3,)]),
            ("greatest_lots", (NO_KEY, (2, 12, ((0,) * 12,) * 3)), [ALL]),
            ("greatest_lots", ((2, 12, ((0,) * 12,) * 3), NO_GUARD), [ALL]),
            ("greatest_lots", ((2, 2, ((1, 1), (1, 0), (0, 1))), NO_GUARD), [()]),
        )

    def test_what_does_not_go_together(self):
        for key, guard in UNFITTING:
            for name in WITH_LOST:
                check_calls(self, (name, (key, guard, (0,)), UNFIT))
            for name in WITH_WORD:
                check_calls(self, (name, (key, guard, (0,), (1,)), UNFIT))
            for name in ("told_product", "two_alike"):
                check_calls(self, (name, (key, guard, CALM, (0,), (1,)), UNFIT))
            for name in ("message_read", "messages_left"):
                check_calls(self, (name, (key, guard, CALM, (0,)), UNFIT))
            check_calls(
                self, ("may_lose_any", (key, guard, 1), UNFIT), ("most_lost", (key, guard), UNFIT),
                ("greatest_lots", (key, guard), UNFIT),
            )

    def test_lots_words_and_pictures_that_are_none(self):
        for lost in NO_LOTS:
            for name in WITH_LOST:
                check_calls(self, (name, (KEY, GUARD, lost), UNFIT))
            for name in WITH_WORD:
                check_calls(self, (name, (KEY, GUARD, lost, (1,)), UNFIT))
            for name in ("told_product", "two_alike"):
                check_calls(self, (name, (KEY, GUARD, CALM, lost, (1,)), UNFIT))
            for name in ("message_read", "messages_left"):
                check_calls(self, (name, (KEY, GUARD, CALM, lost), UNFIT))
        for word in NO_WORDS:
            for name in WITH_WORD:
                check_calls(self, (name, (KEY, GUARD, (0,), word), UNFIT))
            for name in ("told_product", "two_alike"):
                check_calls(self, (name, (KEY, GUARD, CALM, (0,), word), UNFIT))
                check_calls(self, (name, (KEY, GUARD, SEEN, (0,), word), UNFIT))
        check_calls(
            self, ("digits_read", (NO_KEY, GUARD, (3,)), UNFIT), ("lot_map", (NO_KEY, GUARD, (1, 0)), UNFIT),
            ("digits_read", (NO_KEY, TWO_GUARD, ()), UNFIT), ("lot_map", (NO_KEY, FIFTH_GUARD, ()), UNFIT),
        )
        for picture in (PAIR, PAGE):
            for name in ("told_product", "two_alike"):
                check_calls(self, (name, (KEY, GUARD, picture, (0,), (1,)), UNFIT))
                check_calls(self, (name, (KEY, GUARD, picture, ALL, (1,)), UNFIT))
            for name in ("message_read", "messages_left"):
                check_calls(self, (name, (KEY, GUARD, picture, (0,)), UNFIT))

    def test_just_at_and_above_the_bound(self):
        for p, most in ((2, 9), (3, 6), (5, 4)):
            for many in (1, most // 2, most):
                key, guard = brute.mixed_key(p, many, 3, 3), brute.mixed_key(p, most - many, 3, 4)
                least = least_false(key, guard)
                self.assertEqual(most_lost(key, guard), None if least is None else least - 1)
                self.assertIs(may_lose_any(key, guard, 1), least is None or least > 1)
                above = brute.mixed_key(p, most + 1 - many, 3, 4)
                check_calls(
                    self, ("most_lost", (key, above), TOO_MANY), ("may_lose_any", (key, above, 0), TOO_MANY),
                    ("most_lost", (key, FIFTH_GUARD), UNFIT), ("may_lose_any", (key, FIFTH_GUARD, 0), UNFIT),
                )
            for one, other in ((1, most), (most, 1), (2, most // 2)):
                key, guard = brute.mixed_key(p, one, 3, 5), brute.mixed_key(p, other, 3, 6)
                lots = [lot for lot in brute.lots_of(3)
                        if all(papers_of(key, guard, lot, word) for word in unit_words(key))]
                greatest = sorted(lot for lot in lots if not any(set(lot) < set(own) for own in lots))
                self.assertEqual(greatest_lots(key, guard), greatest)
                above = brute.mixed_key(p, other + 1 if one > 1 else most + 1, 3, 6)
                check_calls(
                    self, ("greatest_lots", (key, above), TOO_MANY), ("greatest_lots", (above, key), TOO_MANY),
                    ("greatest_lots", (above, FIFTH_GUARD), UNFIT),
                )

    def test_64_cells(self):
        for p, many, rows in ((2, 3, 12), (3, 2, 9), (5, 2, 6)):
            key, guard = brute.mixed_key(p, many, 64, p), brute.mixed_key(p, rows, 64, p + 1)
            picture = brute.mixed_picture(255, 8, 8, p)
            few, wide, word = (0, 5, 9, 20, 63), tuple(range(0, 64, 3)), (1,) * many
            paper = read_paper(key, guard, few, word)
            self.assertIs(is_read_paper(key, guard, few, word, paper), True)
            self.assertIs(is_lot_map(key, guard, few, lot_map(key, guard, few)), True)
            self.assertEqual(messages_left(key, guard, picture, few), 0)
            self.assertEqual(messages_left(key, guard, picture, wide), p ** many)
            self.assertEqual(message_read(key, guard, picture, wide), (None,) * many)
            self.assertIs(is_hole_forging(key, guard, wide, word, hole_forging(key, guard, wide, word)), True)
            pair = two_alike(key, guard, picture, wide, word)
            self.assertTrue(are_two_alike(key, guard, wide, word, pair))
            for own in pair:
                expected = brute.product_of(p, word, brute.read(key, own))
                self.assertEqual(told_product(key, guard, own, few, word), expected)
                self.assertEqual(message_read(key, guard, own, few), brute.read(key, own))


class GuaranteesTest(unittest.TestCase):
    def test_a_word_is_read_or_there_is_a_hole_forging_never_both(self):
        for key, guard in small_pairs():
            p, many, columns = key
            size = len(columns)
            for lost, word in itertools.product(brute.lots_of(size), brute.words_of(key)):
                task = (key, guard, lost, word)
                read = is_read_by_words(*task)
                papers, holes = papers_of(*task), hole_forgings(*task)
                self.assertEqual((read, read), (papers != [], holes == []))
                self.assertIs(word_read(*task), read)
                known = [row for row in brute.rows_of(p, guard[1]) if is_read_paper(*task, row)]
                self.assertEqual(known, papers)
                everything = [tuple((cell, digit) for cell, digit in enumerate(digits) if digit)
                              for digits in brute.rows_of(p, size)]
                self.assertEqual([forging for forging in everything if is_hole_forging(*task, forging)], holes)
                picture = brute.mixed_picture(4, 1, size, size + many)
                paper, hole = outcome("read_paper", task), outcome("hole_forging", task)
                pair = outcome("two_alike", (key, guard, picture, lost, word))
                if read:
                    self.assertIn(paper, papers)
                    self.assertEqual((hole, pair), (NO_PAPER, NO_PAPER))
                else:
                    self.assertIn(hole, holes)
                    self.assertTrue(are_two_alike(*task, pair))
                    self.assertIs(is_two_alike(*task, pair), True)
                    self.assertEqual((pair[0][0], len(pair[0][1])), (4, 1))
                    self.assertEqual(paper, NO_PAPER)

    def test_products_told_of_the_known_cells_alone(self):
        for number, (key, guard) in enumerate(small_pairs()):
            p, many, columns = key
            size = len(columns)
            for start, lost in enumerate(brute.lots_of(size)):
                picture = brute.mixed_picture(5, 1, size, number + start)
                own = brute.rests_in(p, picture)
                alike = [digits for digits in calm_rests(key, guard)
                         if all(digits[cell] == own[cell] for cell in range(size) if cell not in lost)]
                messages = {brute.read_rests(key, digits) for digits in alike}
                self.assertEqual(messages_left(key, guard, picture, lost), len(messages))
                for word in brute.words_of(key):
                    products = {brute.product_of(p, word, message) for message in messages}
                    right = is_read_by_words(key, guard, lost, word) and messages
                    told = outcome("told_product", (key, guard, picture, lost, word))
                    self.assertEqual(told, max(products) if right else NO_PAPER)
                    self.assertTrue(not right or len(products) == 1)
                told = outcome("message_read", (key, guard, picture, lost))
                if not messages:
                    self.assertEqual(told, NO_PAPER)
                    continue
                for place, unit in enumerate(unit_words(key)):
                    had = {message[place] for message in messages}
                    self.assertEqual({told[place]}, had if is_read_by_words(key, guard, lost, unit) else {None})
                self.assertEqual(len(told), many)

    def test_sums_of_words_that_are_read_are_read(self):
        for key, guard in small_pairs():
            p, many, columns = key
            for lost in brute.lots_of(len(columns)):
                told = words_read(key, guard, lost)
                self.assertIs(is_stepped(p, many, told), True)
                read = [word for word in brute.words_of(key) if is_read_by_words(key, guard, lost, word)]
                self.assertEqual(spanned_rows(p, many, told), [(0,) * many] + read)
                units = [place for place, word in enumerate(unit_words(key)) if word in read]
                self.assertEqual(digits_read(key, guard, lost), tuple(units))

    def test_lots_that_may_be_lost_have_lot_maps(self):
        for key, guard in small_pairs():
            p, many, columns = key
            size = len(columns)
            fine = []
            for lost in brute.lots_of(size):
                papers = [papers_of(key, guard, lost, word) for word in unit_words(key)]
                maps = list(itertools.product(*papers))
                read = all(is_read_by_words(key, guard, lost, word) for word in brute.words_of(key))
                self.assertIs(read, maps != [])
                self.assertIs(may_lose(key, guard, lost), read)
                told = outcome("lot_map", (key, guard, lost))
                if read:
                    fine.append(lost)
                    self.assertIn(told, maps)
                else:
                    self.assertEqual(told, NO_PAPER)
                if p ** (many * guard[1]) < 100:
                    everything = itertools.product(brute.rows_of(p, guard[1]), repeat=many)
                    self.assertEqual([own for own in everything if is_lot_map(key, guard, lost, own)], maps)
            greatest = sorted(lot for lot in fine if not any(set(lot) < set(own) for own in fine))
            self.assertEqual(greatest_lots(key, guard), greatest)
            numbers = [number for number in range(size + 1)
                       if all(lot in fine for lot in brute.lots_of(size) if len(lot) == number)]
            self.assertEqual([number for number in range(size + 1) if may_lose_any(key, guard, number)], numbers)
            self.assertEqual(most_lost(key, guard), None if size in numbers else max(numbers))

    def test_any_so_many_cells_may_be_lost_exactly_if_each_false_forging_has_more(self):
        for key, guard in small_pairs():
            p, size = key[0], len(key[2])
            for many in range(size + 1):
                forgings = [tuple((cell, digit) for cell, digit in enumerate(digits) if digit)
                            for digits in brute.rows_of(p, size)]
                false = any(is_false_forging(key, guard, many, forging) for forging in forgings)
                self.assertIs(may_lose_any(key, guard, many), not false)

    def test_is_two_alike_of_all_small_pairs(self):
        for key, guard in (((2, 1, ((1,), (0,))), (2, 1, ((1,), (1,)))), ((3, 1, ((1,), (1,))), (3, 0, ((), ()))),
                           ((5, 1, ((3,), (2,))), FIFTH_GUARD)):
            pictures = list(brute.pictures_of(4, 1, 2))
            for lost, pair in itertools.product(((), (0,), (0, 1)), itertools.product(pictures, pictures[::2])):
                right = are_two_alike(key, guard, lost, (1,), pair)
                self.assertIs(is_two_alike(key, guard, lost, (1,), pair), right)


class ListsTest(unittest.TestCase):
    def test_each_list_is_new(self):
        told = greatest_lots(KEY, GUARD)
        told.clear()
        self.assertEqual(greatest_lots(KEY, GUARD), [(0, 1), (0, 2), (1, 2)])


if __name__ == "__main__":
    unittest.main()
