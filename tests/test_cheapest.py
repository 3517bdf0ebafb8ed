"""[12]: the cheapest PICTURE, and the SLOPES that show that none is cheaper."""

import itertools
import unittest

from drycells.cheapest import (
    case_of, cheapest, cheapest_paper, cheapest_way, cost_with, end_of, how_many_cheapest, is_case, is_cheapest,
    is_cheapest_paper, is_right_slope, least_cost, least_slope, may_touch, must_touch, next_cost, ways_within,
)
from drycells.hiding import how_many_rests
from drycells.keys import band_key
from tests import brute
from tests.checks import Fits, Raises, check_calls, check_raises_of_things, check_things, outcome, same

UNFIT, NO_PAPER, TOO_MANY = Raises("Unfit"), Raises("NoPaper"), Raises("TooMany")
PICTURE, PRICES = (7, ((3, 4), (6, 1))), (5, 2, None, 1)
KEY, SHUT = (2, 2, ((1, 0), (1, 1), (0, 1), (1, 1))), (None, 2, None, 1)
IDLE = (3, 3, ((1, 0, 0), (0, 0, 2), (2, 0, 0)))
STRIP = (5, ((4, 1, 2),))
FIFTH, PAIR = (5, 1, ((3,), (4,))), (4, ((2,), (4,)))
EMPTY = (3, 0, ((), (), ()))
TASK, IDLE_TASK = (PICTURE, PRICES, KEY, (1, 1)), (STRIP, (1, 2, 3), IDLE, (1, 0, 2))
SHUT_TASK, CALM_TASK = (PICTURE, SHUT, KEY, (1, 1)), (STRIP, (None,) * 3, IDLE, (2, 0, 2))
NO_TASK, PAIR_TASK = (STRIP, (1, 2, 3), IDLE, (1, 1, 2)), (PAIR, (3, 4), FIFTH, (0,))
EMPTY_TASK = (STRIP, (None, 0, 3), EMPTY, ())
LOW = ((0,), (5, 0), (0, 0, 0, 0), (0, 0, 0, 0), (0,))
TASKS = (
    "least_slope", "least_cost", "cheapest_way", "cheapest", "cheapest_paper", "case_of", "how_many_cheapest",
    "next_cost", "may_touch", "must_touch",
)
THINGS = ("is_right_slope", "is_cheapest", "is_cheapest_paper", "is_case")
UNFITTING = (
    (PICTURE, PRICES[:3], KEY, (1, 1)), (PICTURE, PRICES + (1,), KEY, (1, 1)), (PICTURE, PRICES, IDLE, (1, 0, 2)),
    (STRIP, PRICES, KEY, (1, 1)), (PICTURE, PRICES, KEY, (1,)), (PICTURE, PRICES, KEY, (1, 1, 0)),
    (PICTURE, PRICES, KEY, (1, 2)), (PICTURE, PRICES, KEY, (-1, 0)), (STRIP, (1, 1, 1), EMPTY, (0,)),
)


def no_cell(number):
    return Raises("NoCell", number=number)


def wide_task(p, wide):
    """A task with so many rows open at place 1."""
    return (PAIR, (1, 1), (p, wide, ((1,) * wide,) * 2), (1,) * wide)


def is_number(thing):
    return isinstance(thing, int) and not isinstance(thing, bool)


def is_slope_by_words(key, thing):
    sizes = [key[0] ** len(brute.open_by_words(key, place)) for place in range(len(key[2]) + 1)]
    if not isinstance(thing, tuple) or not all(isinstance(part, tuple) for part in thing):
        return False
    return [len(part) for part in thing] == sizes and all(
        own is None or is_number(own) for part in thing for own in part)


def is_right_by_words(task, thing):
    """Whether thing is a right SLOPE, as the document tells it word by word."""
    key = task[2]
    if not is_slope_by_words(key, thing) or thing[0] != (0,):
        return False
    rooms = [brute.rows_of(key[0], len(brute.open_by_words(key, place))) for place in range(len(key[2]) + 1)]
    for cell, there in enumerate(brute.steps_by_words(*task)):
        for room, _, led, price in there:
            ahead, behind = thing[cell][rooms[cell].index(room)], thing[cell + 1][rooms[cell + 1].index(led)]
            if ahead is not None and (behind is None or behind > ahead + price):
                return False
    return True


def shows_by_words(pair, near, far):
    """Whether pair is near or far, two cheapest PICTURES of TASK, with a right SLOPE."""
    shown, slope = pair
    return (same(shown, near) or same(shown, far)) and is_right_by_words(TASK, slope) and slope[-1] == (5,)


def messages_and_ways(picture, prices, key):
    """For each MESSAGE its task, and the pairs (price, way) of all ways that keep prices, ascending."""
    for message, ways in brute.hidings_of(picture, prices, key).items():
        priced = sorted((brute.price_of(picture, prices, key[0], way), way) for way in ways)
        yield (picture, prices, key, message), priced


class ThingsTest(unittest.TestCase):
    def test_is_right_slope(self):
        right = (least_slope(*TASK), LOW, LOW[:2] + ((-7, -7, 0, -9),) + ((-9, -9, -9, -9), (-10,)))
        wrong = (
            ((0,), (6, 0)) + LOW[2:], LOW[:4] + ((None,),), ((None,),) + LOW[1:], ((1,),) + LOW[1:], ((-1,),) + LOW[1:],
            LOW[:4], LOW + ((0,),), LOW[:3] + ((0, 0, 0), (0,)), LOW[:3] + ((0, 0, 0, 0, 0), (0,)), LOW[:4] + ((6,),),
            LOW[:1] + ((5, None),) + LOW[2:],
        )
        check_things(self, "is_right_slope", TASK, right, wrong, judge=lambda own: is_right_by_words(TASK, own))
        high = ((0,), (99, 10 ** 9, -5), (99, 99, 99), (99,))
        check_things(self, "is_right_slope", NO_TASK, (((0,), (None,) * 3, (None,) * 3, (None,)), high), (high[:3],),
                     judge=lambda own: is_right_by_words(NO_TASK, own))
        shut = ((0,), (None, 0), (None, 2, 0, None), (None, 2, 0, None), (None,))
        raised = ((0,), (7, 0), (8, 2, 0, 7), (9, 2, 0, 7), (7,))
        told = ((0,), (7, 0), (7, 2, 0, 9), (7, 2, 0, 9), (7,))
        check_things(self, "is_right_slope", SHUT_TASK, (shut, shut[:4] + ((4,),), told), (raised,),
                     judge=lambda own: is_right_by_words(SHUT_TASK, own))
        self.assertEqual(least_slope(*SHUT_TASK), shut)

    def test_is_cheapest(self):
        right = ((7, ((4, 4), (6, 1))), (7, ((2, 4), (6, 1))))
        wrong = ((7, ((2, 5), (6, 0))), PICTURE, (7, ((2, 4, 6, 1),)), (8, right[0][1]), (7, ((6, 4), (6, 1))))
        check_things(self, "is_cheapest", TASK, right, wrong)
        check_things(self, "is_cheapest", SHUT_TASK, (), right + (PICTURE,))
        free = (PICTURE, (0, 0, None, 0), KEY, (1, 1))
        wrong = (PICTURE, (7, ((2, 4), (4, 1))))
        check_things(self, "is_cheapest", free, (right[0], (7, ((2, 5), (6, 0))), (7, ((0, 0), (6, 7)))), wrong)
        check_things(self, "is_cheapest", CALM_TASK, (STRIP,), ((5, ((4, 1, 5),)),))
        wrong = ((5, ((4, 0, 3),)), (5, ((1, 1, 2),)))
        check_things(self, "is_cheapest", EMPTY_TASK, (STRIP, (5, ((4, 5, 2),))), wrong)

    def test_is_cheapest_paper(self):
        slope = least_slope(*TASK)
        near, far = (7, ((2, 4), (6, 1))), (7, ((4, 4), (6, 1)))
        lower = slope[:3] + ((5, -2, 0, 7), (5,))
        wrong = (
            (near, LOW), (PICTURE, slope), ((7, ((2, 5), (6, 0))), slope), (near,), (near, slope, slope), (slope, near),
            (near, slope[:4]), (near, slope[:4] + ((6,),)), (near, slope[:4] + ((None,),)), [near, slope], near, slope,
        )
        check_things(self, "is_cheapest_paper", TASK, ((near, slope), (far, slope), (far, lower)), wrong,
                     judge=lambda own: isinstance(own, tuple) and len(own) == 2 and shows_by_words(own, near, far))
        check_things(self, "is_cheapest_paper", SHUT_TASK, (), ((near, slope), (near, least_slope(*SHUT_TASK))))

    def test_is_case(self):
        slope, near = least_slope(*TASK), (7, ((4, 4), (6, 1)))
        wrong = (
            ("hidden", near, LOW), ("hidden", (near, slope)), ("barred", near, slope), ("barred", (1, 1)), ("hidden",),
            (),
            ("barred",), ("hidden", near), ("hidden", near, slope, slope), ["hidden", near, slope],
            ("hid", near, slope),
            (near, slope), ("hidden", PICTURE, slope), "hidden", ("barred", "barred"),
        )
        check_things(self, "is_case", TASK, (("hidden", near, slope),), wrong,
                     judge=lambda own: isinstance(own, tuple) and len(own) == 3 and own[0] == "hidden"
                     and shows_by_words(own[1:], near, near))
        wrong = (("barred", (1, 0)), ("barred", (0, 0)), ("barred", (1, 1), ()), ("hidden", (1, 1)), ("barred", 1, 1))
        wrong += (("bar", (1, 1)), (None, (1, 1)), ("", (1, 1)), (0, (1, 1)))
        check_things(self, "is_case", SHUT_TASK, (("barred", (1, 1)),), wrong + (("hidden", near, slope),))
        right = tuple(("barred", word) for word in ((0, 1, 0), (0, 2, 0)))
        check_things(self, "is_case", NO_TASK, right, (("barred", (1, 1, 0)), ("barred", (0, 4, 0))))

    def test_errors_whatever_thing_is(self):
        for name in THINGS:
            for task in UNFITTING:
                check_raises_of_things(self, name, task, UNFIT)
            check_raises_of_things(self, name, wide_task(2, 10), TOO_MANY)
            check_raises_of_things(self, name, wide_task(2, 10)[:3] + ((1,) * 9,), UNFIT)


class CallsTest(unittest.TestCase):
    def test_slopes(self):
        none = (None,) * 3
        check_calls(
            self, ("least_slope", NO_TASK, ((0,), none, none, (None,))), ("least_slope", EMPTY_TASK, ((0,),) * 4),
            ("least_slope", PAIR_TASK, ((0,), (6, 0, 6, 3, 3), (3,))),
            ("least_slope", (PICTURE, SHUT, KEY, (1, 0)), least_slope(*SHUT_TASK)[:4] + ((1,),)),
            ("end_of", (LOW,), 0), ("end_of", (((0,), (None,)),), None), ("end_of", (((0,), (4, 5), (-3,)),), -3),
            ("least_cost", TASK, 5), ("least_cost", SHUT_TASK, None), ("least_cost", NO_TASK, None),
            ("least_cost", EMPTY_TASK, 0), ("least_cost", PAIR_TASK, 3), ("least_cost", IDLE_TASK, 1),
            ("least_cost", (PICTURE, (None,) * 4, KEY, (0, 0)), None),
            ("least_cost", (PICTURE, (None,) * 4, KEY, (0, 1)), 0), ("least_cost", (PICTURE, (0,) * 4, KEY, (0, 0)), 0),
            ("least_cost", CALM_TASK, 0),
        )

    def test_cheapest_pictures(self):
        check_calls(
            self, ("cheapest_way", TASK, (0, 0, 0, 1)), ("cheapest", TASK, (7, ((2, 4), (6, 1)))),
            ("cheapest_way", SHUT_TASK, NO_PAPER), ("cheapest", SHUT_TASK, NO_PAPER),
            ("cheapest_paper", SHUT_TASK, NO_PAPER),
            ("cheapest_way", NO_TASK, NO_PAPER), ("cheapest", NO_TASK, NO_PAPER), ("cheapest_paper", NO_TASK, NO_PAPER),
            ("cheapest_paper", TASK, ((7, ((2, 4), (6, 1))), least_slope(*TASK))),
            ("cheapest_way", EMPTY_TASK, (1, 0, 2)), ("cheapest", EMPTY_TASK, (5, ((4, 0, 2),))),
            ("cheapest_way", PAIR_TASK, (3, 4)),
            ("cheapest_paper", PAIR_TASK, ((4, ((3,), (4,))), ((0,), (6, 0, 6, 3, 3), (3,)))),
            ("cheapest_way", (STRIP, (2, 2, 2), (2, 1, ((1,),) * 3), (0,)), (0, 0, 0)),
            ("cheapest", (STRIP, (2, 2, 2), (2, 1, ((1,),) * 3), (0,)), (5, ((4, 0, 2),))),
            ("cheapest_way", (STRIP, (2, 2, 2), (2, 1, ((1,),) * 3), (1,)), (0, 1, 0)),
            ("case_of", TASK, ("hidden",) + cheapest_paper(*TASK)), ("case_of", SHUT_TASK, ("barred", (1, 1))),
            ("case_of", NO_TASK, Fits(lambda told: told in (("barred", (0, 1, 0)), ("barred", (0, 2, 0))))),
            ("case_of", EMPTY_TASK, ("hidden", (5, ((4, 0, 2),)), ((0,),) * 4)),
        )

    def test_counts(self):
        check_calls(
            self, ("ways_within", TASK + (4,), 0), ("ways_within", TASK + (5,), 1), ("ways_within", TASK + (-1,), 0),
            ("ways_within", TASK + (10 ** 9,), 2), ("ways_within", SHUT_TASK + (99,), 0),
            ("ways_within", NO_TASK + (9,), 0),
            ("ways_within", EMPTY_TASK + (0,), 3), ("ways_within", EMPTY_TASK + (3,), 9),
            ("ways_within", EMPTY_TASK + (2,), 3), ("how_many_cheapest", TASK, 1), ("how_many_cheapest", SHUT_TASK, 0),
            ("how_many_cheapest", NO_TASK, 0), ("how_many_cheapest", EMPTY_TASK, 3),
            ("how_many_cheapest", (PICTURE, (0,) * 4, KEY, (1, 1)), 4), ("next_cost", TASK, 8),
            ("next_cost", SHUT_TASK, None), ("next_cost", NO_TASK, None), ("next_cost", EMPTY_TASK, 3),
            ("next_cost", (PICTURE, (0,) * 4, KEY, (1, 1)), None),
            ("next_cost", (PICTURE, (None,) * 4, KEY, brute.read(KEY, PICTURE)), None),
        )

    def test_other_weights_and_touched_cells(self):
        check_calls(
            self, ("cost_with", TASK + (0, None), None), ("cost_with", TASK + (2, 1), 2),
            ("cost_with", TASK + (0, 0), 0),
            ("cost_with", TASK + (3, 1), 5), ("cost_with", SHUT_TASK + (0, 9), 9), ("cost_with", SHUT_TASK + (2, 1), 2),
            ("cost_with", NO_TASK + (0, 0), None), ("cost_with", EMPTY_TASK + (0, 7), 0),
            ("may_touch", TASK, (0,)), ("must_touch", TASK, (0,)), ("may_touch", SHUT_TASK, ()),
            ("must_touch", SHUT_TASK, ()),
            ("may_touch", NO_TASK, ()), ("must_touch", NO_TASK, ()), ("may_touch", EMPTY_TASK, (1,)),
            ("must_touch", EMPTY_TASK, ()), ("may_touch", (PICTURE, PRICES, KEY, (1, 0)), (3,)),
            ("may_touch", (STRIP, (2, 2, 2), (2, 1, ((1,),) * 3), (0,)), (0, 1, 2)),
            ("must_touch", (STRIP, (2, 2, 2), (2, 1, ((1,),) * 3), (0,)), ()),
            ("must_touch", (STRIP, (3, 2, 4), (2, 1, ((1,),) * 3), (0,)), (1,)),
        )

    def test_what_does_not_go_together(self):
        for task in UNFITTING:
            for name in TASKS:
                check_calls(self, (name, task, UNFIT))
            check_calls(
                self, ("ways_within", task + (5,), UNFIT), ("cost_with", task + (0, 1), UNFIT),
                ("cost_with", task + (9, 1), UNFIT),
            )

    def test_numbers_that_are_none_of_a_cell(self):
        for cell in (-1, 4, 5, -4):
            for task in (TASK, SHUT_TASK):
                check_calls(
                    self, ("cost_with", task + (cell, 1), no_cell(cell)),
                    ("cost_with", task + (cell, None), no_cell(cell)),
                )

    def test_rooms_just_at_and_above_the_bound(self):
        for p, most in ((2, 9), (3, 6), (5, 4)):
            task = wide_task(p, most)
            ways = [(one, (1 - one) % p) for one in range(p)]
            prices = [brute.price_of(PAIR, (1, 1), p, way) for way in ways]
            least = min(prices)
            self.assertEqual(least_cost(*task), least)
            self.assertEqual(cheapest_way(*task), ways[prices.index(least)])
            self.assertIs(is_case(*task, case_of(*task)), True)
            self.assertEqual(how_many_cheapest(*task), prices.count(least))
            above = wide_task(p, most + 1)
            for name in TASKS:
                check_calls(self, (name, above, TOO_MANY), (name, above[:3] + ((1,) * most,), UNFIT))
            check_calls(
                self, ("ways_within", above + (3,), TOO_MANY), ("cost_with", above + (0, 1), TOO_MANY),
                ("cost_with", above + (2, 1), TOO_MANY), ("cost_with", (PAIR, (1,)) + above[2:] + (2, 1), UNFIT),
            )

    def test_many_cells_of_a_band(self):
        for p, length, most in ((2, 5, 300), (3, 3, 900)):
            block = tuple((1,) + brute.mixed(p + row, length - 2, range(p)) + (1,) for row in range(5))
            key = band_key((p, 12, block))
            picture = brute.mixed_picture(255, 5, 12, p)
            prices, message = brute.mixed(p, 60, (None, 0, 1, 7, 1000, 30)), brute.mixed(p, 12, range(p))
            task = (picture, prices, key, message)
            shown, slope = cheapest_paper(*task)
            self.assertTrue(brute.hides(*task, shown))
            self.assertEqual(brute.cost_between(picture, shown, prices), end_of(slope))
            self.assertTrue(is_right_by_words(task, slope))
            self.assertIs(is_cheapest_paper(*task, (shown, slope)), True)
            self.assertIs(is_cheapest(*task, shown), True)
            ways = how_many_rests(*task)
            self.assertEqual(ways_within(*task, 10 ** 6), ways)
            self.assertEqual(ways_within(*task, end_of(slope) - 1), 0)
            self.assertEqual(ways_within(*task, end_of(slope)), how_many_cheapest(*task))
            next_one = next_cost(*task)
            self.assertEqual(ways_within(*task, next_one - 1), how_many_cheapest(*task))
            self.assertGreater(ways_within(*task, next_one), how_many_cheapest(*task))
            self.assertLess(ways_within(*task, most), ways)
            self.assertLessEqual(set(must_touch(*task)), set(may_touch(*task)))
            self.assertEqual(case_of(*task), ("hidden", shown, slope))

    def test_64_cells(self):
        for p, many in ((2, 9), (3, 6), (5, 4)):
            key, picture = brute.mixed_key(p, many, 64, p), brute.mixed_picture(255, 8, 8, p)
            prices, message = brute.mixed(p, 64, (None, 3, 1000, 20)), brute.mixed(p, many, range(p))
            task = (picture, prices, key, message)
            told = case_of(*task)
            self.assertEqual(told[0], "hidden")
            self.assertIs(is_case(*task, told), True)
            self.assertTrue(brute.hides(*task, told[1]))
            self.assertEqual(brute.cost_between(picture, told[1], prices), told[2][-1][0])
            few = prices[:4] + (None,) * 60
            barred = case_of(picture, few, key, message)
            self.assertEqual(barred[0], "barred")
            self.assertIn(barred[1], brute.bars_of(picture, few, key, message))


class GuaranteesTest(unittest.TestCase):
    def test_cheapest_beside_all_ways(self):
        for picture, prices, key in brute.small_tasks(8):
            own = brute.rests_in(key[0], picture)
            for task, priced in messages_and_ways(picture, prices, key):
                costs = sorted({price for price, _ in priced})
                least = costs[0] if costs else None
                best = [way for price, way in priced if price == least]
                self.assertEqual(least_cost(*task), least)
                self.assertEqual(outcome("cheapest_way", task), best[0] if best else NO_PAPER)
                first = brute.nearest_picture(picture, key[0], best[0]) if best else NO_PAPER
                self.assertEqual(outcome("cheapest", task), first)
                self.assertEqual(how_many_cheapest(*task), len(best))
                self.assertEqual(next_cost(*task), costs[1] if len(costs) > 1 else None)
                for most in sorted({-1, 0, 10 ** 6} | {cost + step for cost in costs for step in (-1, 0)}):
                    self.assertEqual(ways_within(*task, most), sum(price <= most for price, _ in priced))
                touched = [{cell for cell, rest in enumerate(way) if rest != own[cell]} for way in best]
                self.assertEqual(may_touch(*task), tuple(sorted(set().union(*touched))))
                must = set.intersection(*touched) if touched else set()
                self.assertEqual(must_touch(*task), tuple(sorted(must)))

    def test_there_is_always_just_one_case(self):
        for picture, prices, key in brute.small_tasks(8):
            for task, priced in messages_and_ways(picture, prices, key):
                told, bars = case_of(*task), brute.bars_of(*task)
                self.assertIs(is_case(*task, told), True)
                if priced:
                    self.assertEqual(told, ("hidden",) + cheapest_paper(*task))
                    self.assertTrue(brute.hides(*task, told[1]))
                    self.assertEqual(brute.cost_between(picture, told[1], prices), priced[0][0])
                    self.assertEqual(bars, [])
                else:
                    self.assertIn(told[1], bars)
                    self.assertEqual(outcome("cheapest_paper", task), NO_PAPER)
                known = [word for word in brute.rows_of(key[0], key[1]) if is_case(*task, ("barred", word))]
                self.assertEqual(known, bars)

    def test_cheapest_beside_all_pictures(self):
        for picture, prices, key in itertools.chain(brute.small_tasks(4), brute.small_tasks(2, (0, 1, 3, None))):
            top, size = picture[0], len(prices)
            if (top + 1) ** size > 600:
                continue
            others = list(brute.pictures_of(top, 1, size))
            for message in brute.rows_of(key[0], key[1])[:5]:
                task = (picture, prices, key, message)
                costs = {other: brute.cost_between(picture, other, prices) for other in others
                         if brute.hides(*task, other)}
                least = min(costs.values(), default=None)
                self.assertEqual(least_cost(*task), least)
                known = [other for other in others if is_cheapest(*task, other)]
                self.assertEqual(known, [other for other in others if other in costs and costs[other] == least])
                slope = least_slope(*task)
                known = [other for other in others if is_cheapest_paper(*task, (other, slope))]
                self.assertEqual(known, [other for other in others if other in costs and costs[other] == least])
                if costs:
                    nearest = [other for other in known if other == brute.nearest_picture(
                        picture, key[0], brute.rests_in(key[0], other))]
                    self.assertEqual(cheapest(*task), min(
                        nearest, key=lambda other: brute.rests_in(key[0], other)))

    def test_least_slope_beside_all_beginnings(self):
        for picture, prices, key in brute.small_tasks(5):
            for message in brute.rows_of(key[0], key[1])[::2]:
                task = (picture, prices, key, message)
                told = least_slope(*task)
                self.assertEqual(told, brute.slope_by_words(task))
                self.assertTrue(is_right_by_words(task, told))
                self.assertIs(is_right_slope(*task, told), True)
                self.assertEqual(end_of(told), least_cost(*task))

    def test_all_slopes_of_the_least_keys(self):
        numbers = (None, -1, 0, 1, 2)
        for p, columns in ((2, ((1,), (1,))), (2, ((1,), (0,))), (2, ((0,), (0,))), (3, ((1,), (2,)))):
            key = (p, 1, columns)
            shapes = [p ** len(brute.open_by_words(key, place)) for place in range(3)]
            for prices, message in itertools.product(((1, 1), (None, 2), (0, None)), ((0,), (1,))):
                task = ((4, ((1, 2),)), prices, key, message)
                least = least_slope(*task)
                for heights in itertools.product(numbers, repeat=sum(shapes) - 1):
                    slope = ((0,), heights[:shapes[1]], heights[shapes[1]:])
                    right = is_right_by_words(task, slope)
                    self.assertIs(is_right_slope(*task, slope), right)
                    if right:
                        for low, own in zip(sum(least, ()), sum(slope, ())):
                            self.assertTrue(low is None or own is not None and own <= low)

    def test_slopes_as_if_at_random(self):
        for number, (picture, prices, key) in enumerate(brute.small_tasks(6)):
            message = brute.rows_of(key[0], key[1])[number % key[0] ** key[1]]
            task = (picture, prices, key, message)
            least = least_slope(*task)
            for start in range(12):
                lowered = []
                for place, heights in enumerate(least):
                    falls = brute.mixed(start * 31 + number + place, len(heights), (0, 0, 1, place))
                    lowered.append(tuple(
                        height if height is None or place == 0 else height - fall - place * (start % 3)
                        for height, fall in zip(heights, falls)))
                slope = tuple(lowered)
                right = is_right_by_words(task, slope)
                self.assertIs(is_right_slope(*task, slope), right)
                if right and end_of(least) is not None:
                    paper = (cheapest(*task), slope)
                    self.assertIs(is_cheapest_paper(*task, paper), end_of(slope) == end_of(least))

    def test_lesser_weights_and_fewer_barred_cells_cost_no_more(self):
        for picture, prices, key in brute.small_tasks(5):
            for message in brute.rows_of(key[0], key[1])[::2]:
                task = (picture, prices, key, message)
                least = least_cost(*task)
                for cell, weight in itertools.product(range(len(prices)), (None, 0, 1, 4)):
                    told = cost_with(*task, cell, weight)
                    other = prices[:cell] + (weight,) + prices[cell + 1:]
                    self.assertEqual(told, least_cost(picture, other, key, message))
                    lesser = weight is not None and (prices[cell] is None or weight <= prices[cell])
                    if lesser and least is not None:
                        self.assertLessEqual(told, least)


if __name__ == "__main__":
    unittest.main()
