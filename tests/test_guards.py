"""[15]: guards, and what is read in spite of forged CELLS."""

import itertools
import unittest

from drycells.guards import (
    false_forging, forged_picture, forging_behind, forging_between, is_false_forging, is_forging, is_forging_behind,
    is_guarded, is_two_forgeries, least_false, mended, mends, messages_behind, most_mended, most_told, sums_of,
    two_forgeries,
)
from tests import brute
from tests.checks import Fits, Raises, check_calls, check_raises_of_things, check_things, outcome

UNFIT, NO_PAPER, TOO_MANY = Raises("Unfit"), Raises("NoPaper"), Raises("TooMany")
KEY, GUARD = (2, 1, ((1,), (0,), (0,))), (2, 2, ((1, 0), (1, 1), (0, 1)))
CALM, SEEN, FAR = (7, ((2, 4, 6),)), (7, ((2, 5, 6),)), (7, ((1, 5, 7),))
# Its guard reads two columns, the third CELL is read by the key alone.
THIRD, THIRD_GUARD = (3, 1, ((1,), (2,), (1,))), (3, 1, ((1,), (1,), (0,)))
FIFTH, FIFTH_GUARD = (5, 1, ((3,), (1,))), (5, 1, ((1,), (2,)))
NO_GUARD, ALL_GUARD = (2, 0, ((), (), ())), (2, 3, ((1, 0, 0), (0, 1, 0), (0, 0, 1)))
NO_KEY = (2, 0, ((), (), ()))
PAIR = (4, ((2, 4),))
STARRED = (
    ("least_false", ()), ("false_forging", ()), ("mends", (1,)), ("most_mended", ()), ("most_told", ()),
    ("messages_behind", (SEEN, 1)), ("mended", (SEEN, 1)), ("forging_behind", (SEEN, (0,), 1)),
    ("two_forgeries", (SEEN, 2)),
)
# Pairs of a key and a guard that do not go together.
UNFITTING = (
    (KEY, THIRD_GUARD), (KEY, FIFTH_GUARD), (FIFTH, THIRD_GUARD), (KEY, GUARD[:2] + (GUARD[2][:2],)), (THIRD, GUARD),
    (KEY, GUARD[:2] + (GUARD[2] * 2,)),
)


def two_keys(p, one, other, size=3):
    """A KEY and a guard of so many rows, each of their columns but the last with its own DIGITS."""
    return brute.mixed_key(p, one, size, 3), brute.mixed_key(p, other, size, 4)


def small_pairs():
    """Small KEYS with guards, as if at random, some with no rows, some guards that read all."""
    for p, many, rows, size in ((2, 0, 1, 2), (2, 1, 0, 3), (2, 1, 1, 3), (2, 1, 2, 4), (2, 2, 2, 4), (2, 2, 3, 5),
                                (3, 0, 0, 1), (3, 1, 1, 3), (3, 1, 2, 4), (3, 2, 1, 3), (5, 1, 1, 3), (5, 1, 0, 2),
                                (5, 1, 1, 2)):
        for start in range(5):
            yield brute.mixed_key(p, many, size, start), brute.mixed_key(p, rows, size, start + 50)
    yield KEY, GUARD
    yield KEY, ALL_GUARD
    yield (3, 1, ((1,), (2,), (0,))), (3, 1, ((1,), (1,), (1,)))
    yield (2, 1, ((0,), (0,), (0,))), GUARD
    yield (2, 1, ((1,),) * 5), (2, 4, ((1, 1, 1, 1), (1, 0, 0, 0), (0, 1, 0, 0), (0, 0, 1, 0), (0, 0, 0, 1)))


def forging_of(digits):
    return tuple((cell, digit) for cell, digit in enumerate(digits) if digit)


def false_ones(key, guard):
    """All false FORGINGS."""
    return [forging_of(digits) for digits in brute.rows_of(key[0], len(key[2]))
            if not any(brute.read_rests(guard, digits)) and any(brute.read_rests(key, digits))]


def fewest_of(key, guard):
    return min(map(len, false_ones(key, guard)), default=None)


def forgings_to(key, guard, picture, message):
    """All FORGINGS that lead to what is guarded and reads as message."""
    p, own = key[0], brute.rests_in(key[0], picture)
    found = []
    for digits in brute.rows_of(p, len(own)):
        new = tuple((one + other) % p for one, other in zip(own, digits))
        if not any(brute.read_rests(guard, new)) and brute.read_rests(key, new) == message:
            found.append(forging_of(digits))
    return found


def are_two_forgeries(key, guard, most, triple):
    """Whether the triple, of PICTURES, is as two_forgeries tells it, word by word."""
    one, other, seen = triple
    shapes = {(own[0], len(own[1]), len(own[1][0])) for own in triple}
    if len(shapes) > 1 or len(brute.greys_in(one)) != len(key[2]):
        return False
    if any(brute.read(guard, one)) or any(brute.read(guard, other)) or brute.read(key, one) == brute.read(key, other):
        return False
    return all(len(brute.touched_between(own, seen)) <= most for own in (one, other))


class ThingsTest(unittest.TestCase):
    def test_is_forging(self):
        wrong = (
            ((0, 0),), ((3, 1),), ((0, 2),), ((1, 1), (0, 1)), ((0, 1), (0, 1)), ((0,),), ((0, 1, 1),), (0, 1),
            ((0, 1), 1),
            ((0, 1), None), ((-1, 1),), ((0, -1),),
        )
        right = (((0, 1),), ((0, 1), (2, 1)), ((0, 1), (1, 1), (2, 1)))
        check_things(self, "is_forging", (KEY,), right, wrong, fine=((),))
        check_things(self, "is_forging", (FIFTH,), (((0, 4),), ((0, 1), (1, 3))), (((0, 5),), ((2, 1),)), fine=((),))

    def test_is_false_forging(self):
        right, wrong = ((0, 1), (1, 1), (2, 1)), (((0, 1),), ((0, 1), (1, 1)), ((0, 1), (1, 1), (3, 1)))
        check_things(self, "is_false_forging", (KEY, GUARD, 3), (right,), wrong + ((), right[::-1]))
        check_things(self, "is_false_forging", (KEY, GUARD, 2), (), wrong + (right,))
        wide, other = ((0, 1), (1, 2)), ((0, 1), (1, 1))
        check_things(self, "is_false_forging", (THIRD, THIRD_GUARD, 9), (((2, 1),), wide), (other,))
        check_things(self, "is_false_forging", (THIRD, THIRD_GUARD, 1), (((2, 2),),), (wide, ()))
        check_things(self, "is_false_forging", (KEY, ALL_GUARD, 3), (), (right, ()))
        check_things(self, "is_false_forging", (NO_KEY, NO_GUARD, 3), (), (right, ()))

    def test_is_forging_behind(self):
        near, far = ((1, 1),), ((0, 1), (2, 1))
        check_things(self, "is_forging_behind", (KEY, GUARD, SEEN, (1,), 2), (far,), (near, far[::-1], (), ((0, 1),)))
        check_things(self, "is_forging_behind", (KEY, GUARD, SEEN, (1,), 1), (), (near, far))
        check_things(self, "is_forging_behind", (KEY, GUARD, SEEN, (0,), 3), (near,), (far, ((1, 3),), ((4, 1),)))
        check_things(self, "is_forging_behind", (KEY, GUARD, CALM, (0,), 0), (), (near,), fine=((),))
        check_things(self, "is_forging_behind", (KEY, GUARD, CALM, (1,), 3), (((0, 1), (1, 1), (2, 1)),), (far, ()))
        right = (((2, 1),), ((0, 1), (1, 2), (2, 2)), ((0, 2), (1, 1)))
        task = (THIRD, THIRD_GUARD, (4, ((0, 3, 0),)), (1,))
        check_things(self, "is_forging_behind", task + (3,), right, (((2, 2),), ()))

    def test_is_two_forgeries(self):
        wrong = (
            (CALM, FAR, CALM), (CALM, CALM, SEEN), (SEEN, FAR, SEEN), (CALM, FAR), (CALM, FAR, SEEN, SEEN),
            (CALM, FAR, None),
            (CALM, FAR, (8, SEEN[1])), (CALM, (8, FAR[1]), SEEN), (CALM, FAR, (7, ((2,), (5,), (6,)))),
            [CALM, FAR, SEEN],
            ((7, ((2, 4, 6, 0),)), (7, ((1, 5, 7, 0),)), (7, ((2, 5, 6, 0),))), (PAIR, PAIR, PAIR),
        )
        check_things(self, "is_two_forgeries", (KEY, GUARD, 2), ((CALM, FAR, SEEN), (FAR, CALM, SEEN)), wrong)
        check_things(self, "is_two_forgeries", (KEY, GUARD, 3), ((CALM, FAR, CALM), (CALM, FAR, FAR)), wrong[1:3])
        check_things(self, "is_two_forgeries", (KEY, GUARD, 1), (), wrong + ((CALM, FAR, SEEN),))
        near = ((4, ((0,), (0,), (0,))), (4, ((3,), (3,), (1,))), (4, ((3,), (0,), (0,))))
        check_things(self, "is_two_forgeries", (THIRD, THIRD_GUARD, 2), (near,), (near[:2] + (near[0],),))

    def test_errors_whatever_thing_is(self):
        for pair in UNFITTING:
            for name, more in (("is_false_forging", (3,)), ("is_two_forgeries", (3,)),
                               ("is_forging_behind", (SEEN, (0,), 3))):
                check_raises_of_things(self, name, pair + more, UNFIT)
        for picture, message in ((PAIR, (0,)), (SEEN, (2,)), (SEEN, (0, 0)), (SEEN, ())):
            check_raises_of_things(self, "is_forging_behind", (KEY, GUARD, picture, message, 3), UNFIT)


class CallsTest(unittest.TestCase):
    def test_forgings(self):
        check_calls(
            self, ("is_guarded", (CALM, GUARD), True), ("is_guarded", (SEEN, GUARD), False),
            ("is_guarded", (SEEN, NO_GUARD), True),
            ("is_guarded", (FAR, ALL_GUARD), False), ("is_guarded", (PAIR, FIFTH_GUARD), True),
            ("sums_of", (KEY, GUARD, ()), ((0, 0), (0,))), ("sums_of", (KEY, GUARD, ((0, 1), (2, 1))), ((1, 1), (1,))),
            ("sums_of", (FIFTH, FIFTH_GUARD, ((0, 4), (1, 3))), ((0,), (0,))),
            ("sums_of", (NO_KEY, NO_GUARD, ((1, 1),)), ((), ())),
            ("sums_of", (FIFTH, FIFTH_GUARD, ((1, 3),)), ((1,), (3,))),
            ("forged_picture", (CALM, 2, ()), CALM), ("forged_picture", (CALM, 2, ((0, 1), (1, 1))), (7, ((1, 3, 6),))),
            ("forged_picture", (PAIR, 5, ((1, 1),)), (4, ((2, 0),))),
            ("forged_picture", (PAIR, 3, ((0, 2), (1, 1))), (4, ((1, 2),))),
            ("forged_picture", (CALM, 2, ((3, 1),)), UNFIT), ("forged_picture", (PAIR, 5, ((0, 1), (2, 1))), UNFIT),
            ("forging_between", (CALM, SEEN, 2), ((1, 1),)), ("forging_between", (CALM, SEEN, 3), ((1, 1),)),
            ("forging_between", (CALM, CALM, 5), ()), ("forging_between", (CALM, (7, ((7, 2, 6),)), 5), ((1, 3),)),
            ("forging_between", (FAR, CALM, 5), ((0, 1), (1, 4), (2, 4))), ("forging_between", (CALM, PAIR, 2), UNFIT),
            ("forging_between", (CALM, (8, CALM[1]), 2), UNFIT),
            ("forging_between", (CALM, (7, ((2,), (4,), (6,))), 3), UNFIT),
        )

    def test_false_forgings(self):
        check_calls(
            self, ("least_false", (KEY, GUARD), 3), ("least_false", (KEY, ALL_GUARD), None),
            ("least_false", (KEY, NO_GUARD), 1),
            ("least_false", (NO_KEY, NO_GUARD), None), ("least_false", (THIRD, THIRD_GUARD), 1),
            ("least_false", (FIFTH, FIFTH_GUARD), None),
            ("false_forging", (KEY, GUARD), ((0, 1), (1, 1), (2, 1))), ("false_forging", (KEY, ALL_GUARD), NO_PAPER),
            ("false_forging", (KEY, NO_GUARD), ((0, 1),)), ("false_forging", (NO_KEY, NO_GUARD), NO_PAPER),
            ("false_forging", (THIRD, THIRD_GUARD), Fits(lambda told: told in (((2, 1),), ((2, 2),)))),
            ("mends", (KEY, GUARD, 1), True), ("mends", (KEY, GUARD, 2), False), ("mends", (KEY, NO_GUARD, 0), True),
            ("mends", (KEY, NO_GUARD, 1), False), ("mends", (KEY, ALL_GUARD, 99), True),
            ("mends", (NO_KEY, NO_GUARD, 5), True),
            ("most_mended", (KEY, GUARD), 1), ("most_mended", (KEY, NO_GUARD), 0),
            ("most_mended", (KEY, ALL_GUARD), None),
            ("most_told", (KEY, GUARD), 2), ("most_told", (KEY, NO_GUARD), 0), ("most_told", (NO_KEY, NO_GUARD), None),
            ("most_mended", (THIRD, THIRD_GUARD), 0), ("most_told", (THIRD, THIRD_GUARD), 0),
        )

    def test_messages_behind(self):
        check_calls(
            self, ("messages_behind", (KEY, GUARD, SEEN, 0), ()), ("messages_behind", (KEY, GUARD, CALM, 0), ((0,),)),
            ("messages_behind", (KEY, GUARD, CALM, 2), ((0,),)),
            ("messages_behind", (KEY, GUARD, CALM, 3), ((0,), (1,))),
            ("messages_behind", (KEY, GUARD, SEEN, 99), ((0,), (1,))),
            ("messages_behind", (KEY, ALL_GUARD, SEEN, 0), ()),
            ("messages_behind", (KEY, ALL_GUARD, FAR, 2), ()), ("messages_behind", (KEY, ALL_GUARD, FAR, 3), ((0,),)),
            ("messages_behind", (NO_KEY, NO_GUARD, FAR, 0), ((),)), ("messages_behind", (NO_KEY, GUARD, SEEN, 0), ()),
            ("messages_behind", (KEY, NO_GUARD, FAR, 0), ((1,),)),
            ("messages_behind", (KEY, NO_GUARD, FAR, 1), ((0,), (1,))),
            ("mended", (KEY, GUARD, SEEN, 1), (0,)), ("mended", (KEY, GUARD, SEEN, 0), NO_PAPER),
            ("mended", (KEY, GUARD, SEEN, 2), NO_PAPER), ("mended", (NO_KEY, NO_GUARD, FAR, 0), ()),
            ("mended", (KEY, ALL_GUARD, FAR, 3), (0,)),
            ("forging_behind", (KEY, GUARD, SEEN, (0,), 1), ((1, 1),)),
            ("forging_behind", (KEY, GUARD, SEEN, (1,), 1), NO_PAPER),
            ("forging_behind", (KEY, GUARD, SEEN, (1,), 2), ((0, 1), (2, 1))),
            ("forging_behind", (KEY, GUARD, CALM, (0,), 0), ()),
            ("forging_behind", (KEY, GUARD, SEEN, (0,), 0), NO_PAPER),
            ("forging_behind", (KEY, ALL_GUARD, CALM, (1,), 9), NO_PAPER),
            ("forging_behind", (NO_KEY, NO_GUARD, SEEN, (), 0), ()),
        )

    def test_two_forgeries(self):
        check_calls(
            self, ("two_forgeries", (KEY, GUARD, SEEN, 2), Fits(lambda told: are_two_forgeries(KEY, GUARD, 2, told))),
            ("two_forgeries", (KEY, GUARD, SEEN, 9), Fits(lambda told: are_two_forgeries(KEY, GUARD, 9, told))),
            ("two_forgeries", (KEY, GUARD, SEEN, 1), NO_PAPER), ("two_forgeries", (KEY, NO_GUARD, SEEN, 0), NO_PAPER),
            ("two_forgeries", (KEY, NO_GUARD, SEEN, 1), Fits(lambda told: are_two_forgeries(KEY, NO_GUARD, 1, told))),
            ("two_forgeries", (KEY, ALL_GUARD, SEEN, 3), NO_PAPER),
            ("two_forgeries", (NO_KEY, NO_GUARD, FAR, 3), NO_PAPER),
        )

    def test_what_does_not_go_together(self):
        for key, guard in UNFITTING:
            check_calls(self, ("sums_of", (key, guard, ()), UNFIT))
            for name, more in STARRED:
                check_calls(self, (name, (key, guard) + more, UNFIT))
        for picture in (PAIR, (4, ((1, 2), (3, 4)))):
            check_calls(
                self, ("is_guarded", (picture, GUARD), UNFIT), ("messages_behind", (KEY, GUARD, picture, 1), UNFIT),
                ("mended", (KEY, GUARD, picture, 1), UNFIT), ("forging_behind", (KEY, GUARD, picture, (0,), 1), UNFIT),
                ("two_forgeries", (KEY, GUARD, picture, 2), UNFIT), ("two_forgeries", (KEY, GUARD, picture, 0), UNFIT),
            )
        for message in ((), (0, 0), (2,), (-1,)):
            check_calls(self, ("forging_behind", (KEY, GUARD, SEEN, message, 1), UNFIT))

    def test_just_at_and_above_the_bound(self):
        for p, most in ((2, 9), (3, 6), (5, 4)):
            for many in (0, 1, most // 2, most):
                key, guard = two_keys(p, many, most - many)
                self.assertEqual(least_false(key, guard), fewest_of(key, guard))
                calm = [digits for digits in brute.rows_of(p, 3) if not any(brute.read_rests(guard, digits))]
                everything = tuple(sorted({brute.read_rests(key, digits) for digits in calm}))
                self.assertEqual(messages_behind(key, guard, FAR, 3), everything)
                key, guard = two_keys(p, many, most + 1 - many)
                zeros = (0,) * many
                for name, more in STARRED:
                    if name == "forging_behind":
                        more = (SEEN, zeros, 1)
                        check_calls(self, (name, (key, guard, SEEN, zeros + (0,), 1), UNFIT))
                    check_calls(self, (name, (key, guard) + more, TOO_MANY), (name, (key, FIFTH_GUARD) + more, UNFIT))
                for name in ("messages_behind", "mended", "two_forgeries"):
                    check_calls(self, (name, (key, guard, PAIR, 1), UNFIT))
                told = outcome("is_false_forging", (key, guard, 3, ((0, 1),)))
                self.assertIs(told, ((0, 1),) in false_ones(key, guard))

    def test_64_cells(self):
        for p, many, rows in ((2, 2, 7), (3, 1, 5), (5, 1, 3)):
            key, guard = brute.mixed_key(p, many, 64, p), brute.mixed_key(p, rows, 64, p + 1)
            picture = brute.mixed_picture(255, 8, 8, p)
            forging = false_forging(key, guard)
            least = least_false(key, guard)
            self.assertEqual(len(forging), least)
            self.assertIs(is_false_forging(key, guard, least, forging), True)
            self.assertEqual((most_mended(key, guard), most_told(key, guard)), ((least - 1) // 2, least - 1))
            half = most_mended(key, guard) + 1
            triple = two_forgeries(key, guard, picture, half)
            self.assertTrue(are_two_forgeries(key, guard, half, triple))
            self.assertIs(is_two_forgeries(key, guard, half, triple), True)
            behind = messages_behind(key, guard, triple[2], half)
            self.assertTrue(all(brute.read(key, own) in behind for own in triple[:2]))
            calm = triple[0]
            self.assertEqual(mended(key, guard, calm, half - 1), brute.read(key, calm))
            message = (1,) * many
            behind = forging_behind(key, guard, picture, message, 64)
            self.assertIs(is_forging_behind(key, guard, picture, message, len(behind), behind), True)
            shown = forged_picture(picture, p, behind)
            self.assertEqual((brute.read(key, shown), is_guarded(shown, guard)), (message, True))
            self.assertEqual(outcome("forging_behind", (key, guard, picture, message, len(behind) - 1)), NO_PAPER)


class GuaranteesTest(unittest.TestCase):
    def test_changes_turn_the_readings_by_the_sums(self):
        for number, (key, guard) in enumerate(small_pairs()):
            p, size = key[0], len(key[2])
            for start in range(4):
                one, other = (brute.mixed_picture(6, size, 1, number + start * step) for step in (2, 5))
                forging = forging_between(one, other, p)
                self.assertIs(is_forging(key, forging), True)
                sums = sums_of(key, guard, forging)
                for own, total in ((guard, sums[0]), (key, sums[1])):
                    turned = brute.sum_by(p, own[1], (brute.read(own, one), total), (1, 1))
                    self.assertEqual(turned, brute.read(own, other))
                forged = forged_picture(one, p, forging)
                self.assertEqual(brute.rests_in(p, forged), brute.rests_in(p, other))
                self.assertEqual(forged, brute.nearest_picture(one, p, brute.rests_in(p, other)))
                self.assertIs(is_guarded(other, guard), not any(brute.read(guard, other)))

    def test_false_forgings_beside_all_forgings(self):
        for key, guard in small_pairs():
            p, size = key[0], len(key[2])
            false = false_ones(key, guard)
            least = min(map(len, false), default=None)
            self.assertEqual(least_false(key, guard), least)
            told = outcome("false_forging", (key, guard))
            if false:
                self.assertIn(told, [forging for forging in false if len(forging) == least])
            else:
                self.assertEqual(told, NO_PAPER)
            everything = [forging_of(digits) for digits in brute.rows_of(p, size)]
            for most in range(size + 1):
                known = [forging for forging in everything if is_false_forging(key, guard, most, forging)]
                self.assertEqual(known, [forging for forging in false if len(forging) <= most])
                self.assertIs(mends(key, guard, most), least is None or least > 2 * most)
            mended_to = max([most for most in range(size + 1) if mends(key, guard, most)])
            self.assertEqual(most_mended(key, guard), None if least is None else mended_to)
            self.assertEqual(most_told(key, guard), None if least is None else least - 1)

    def test_messages_behind_beside_all_guarded_pictures(self):
        for number, (key, guard) in enumerate(small_pairs()):
            p, many, columns = key
            size = len(columns)
            picture = brute.mixed_picture(4, 1, size, number)
            others = list(brute.pictures_of(4, 1, size)) if size < 4 else [
                brute.nearest_picture(picture, p, digits) for digits in brute.rows_of(p, size)]
            near = {}
            for other in others:
                if not any(brute.read(guard, other)):
                    message = brute.read(key, other)
                    near[message] = min(near.get(message, size), len(brute.touched_between(picture, other)))
            for most in range(size + 1):
                within = tuple(sorted(message for message in near if near[message] <= most))
                self.assertEqual(messages_behind(key, guard, picture, most), within)
                only = within[0] if len(within) == 1 else NO_PAPER
                self.assertEqual(outcome("mended", (key, guard, picture, most)), only)
                for message in brute.rows_of(p, many):
                    leading = forgings_to(key, guard, picture, message)
                    fewest = min(map(len, leading), default=None)
                    self.assertEqual(fewest, near.get(message))
                    told = outcome("forging_behind", (key, guard, picture, message, most))
                    if fewest is None or fewest > most:
                        self.assertEqual(told, NO_PAPER)
                    else:
                        self.assertIn(told, [forging for forging in leading if len(forging) == fewest])
                    known = [forging for forging in map(forging_of, brute.rows_of(p, size))
                             if is_forging_behind(key, guard, picture, message, most, forging)]
                    self.assertEqual(known, [forging for forging in leading if len(forging) <= most])

    def test_messages_are_read_in_spite_of_forged_cells_or_two_forgeries_show_why_not(self):
        for number, (key, guard) in enumerate(small_pairs()):
            p, size = key[0], len(key[2])
            calm = [digits for digits in brute.rows_of(p, size) if not any(brute.read_rests(guard, digits))]
            for most in range(size):
                # Two guarded ROWS of RESTS are near a third one exactly if at most twice as many are unlike.
                near = any(
                    brute.read_rests(key, one) != brute.read_rests(key, other)
                    and sum(left != right for left, right in zip(one, other)) <= 2 * most
                    for one, other in itertools.combinations(calm, 2))
                self.assertIs(mends(key, guard, most), not near)
                picture = brute.mixed_picture(5, size, 1, number)
                told = outcome("two_forgeries", (key, guard, picture, most))
                if not near:
                    self.assertEqual(told, NO_PAPER)
                    continue
                self.assertTrue(are_two_forgeries(key, guard, most, told))
                self.assertIs(is_two_forgeries(key, guard, most, told), True)
                self.assertEqual([(own[0], len(own[1]), len(own[1][0])) for own in told], [(5, size, 1)] * 3)

    def test_is_two_forgeries_of_all_small_triples(self):
        for key, guard in (((2, 1, ((1,), (0,))), (2, 1, ((1,), (1,)))), ((3, 1, ((1,), (1,))), (3, 0, ((), ()))),
                           (FIFTH, FIFTH_GUARD)):
            pictures = list(brute.pictures_of(4, 1, 2))[::2]
            for most, triple in itertools.product((1, 2), itertools.product(pictures, pictures, pictures[::3])):
                self.assertIs(is_two_forgeries(key, guard, most, triple), are_two_forgeries(key, guard, most, triple))

    def test_a_reading_stays_or_the_guard_reads_no_zeros(self):
        for key, guard in small_pairs():
            told = most_told(key, guard)
            for digits in brute.rows_of(key[0], len(key[2])):
                turns = any(brute.read_rests(key, digits)) and not any(brute.read_rests(guard, digits))
                if turns:
                    self.assertGreater(brute.weight_of(digits), told)


if __name__ == "__main__":
    unittest.main()
