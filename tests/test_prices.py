"""[7]: PRICES, COST and CHEAPEST GREYS."""

import itertools
import unittest

from drycells.pictures import greys, is_picture, like_shape, rests
from drycells.prices import (
    barred_cells, barred_touched, barring, both_prices, cheapest_grey, cost, cost_of_rests, even_prices, free_cells,
    greys_for, is_prices, rest_prices, rough_prices, roughness, weighing, with_rests, within,
)
from tests import brute
from tests.checks import JUNK, Raises, check_call, check_calls, check_things, check_told, outcome

UNFIT = Raises("Unfit")
FACE, FEES = (9, ((5, 5, 8), (0, 9, 4))), (None, 2, 0, 5, 1, None)
DOT = (4, ((3,),))


def no_cell(number):
    return Raises("NoCell", number=number)


def pairs_of_pictures():
    """PRICES with all pairs of small PICTURES, as triples (one, other, prices)."""
    for prices in itertools.product((None, 0, 3), repeat=2):
        for one in brute.pictures_of(4, 1, 2):
            for other in brute.pictures_of(4, 1, 2):
                yield one, other, prices


class ThingsTest(unittest.TestCase):
    def test_is_prices(self):
        for thing in (FEES, (None,) * 6, (0,) * 6, (1000, 5000, 10 ** 9, 0, None, 1)):
            check_call(self, "is_prices", (FACE, thing), True)
            check_told(self, "is_prices", (FACE,), list(thing), False)
        for thing in (FEES[:5], FEES + (1,), (-1,) * 6, FEES[:5] + (-1,), FEES[:5] + (True,), (False,) + FEES[1:],
                      FEES[:5] + ("1",), FEES[:5] + ((1,),), FEES[:5] + ("",), FEES[:5] + ([],)):
            check_call(self, "is_prices", (FACE, thing), False)
        for thing in JUNK:
            check_told(self, "is_prices", (FACE,), thing, False)
        check_things(self, "is_prices", (DOT,), (), (None, (), (1, 1)), fine=((None,), (7,)))


class CallsTest(unittest.TestCase):
    def test_prices_made(self):
        check_calls(
            self, ("even_prices", (FACE, 3), (3,) * 6), ("even_prices", (DOT, 0), (0,)),
            ("free_cells", ((None,) * 3,), ()),
            ("free_cells", ((0,) * 3,), (0, 1, 2)), ("barred_cells", ((None,) * 3,), (0, 1, 2)),
            ("barred_cells", ((0, 1, 2),), ()), ("barring", (FEES, ()), FEES), ("barring", (FEES, (0, 5)), FEES),
            ("barring", ((0, 0), (0, 1)), (None, None)), ("barring", ((None, 0, 1), (2,)), (None, 0, None)),
            ("weighing", (FEES, (), 7), FEES), ("weighing", (FEES, (5,), 0), (None, 2, 0, 5, 1, 0)),
            ("weighing", (FEES, (0, 2), 4), (4, 2, 4, 5, 1, None)), ("both_prices", ((1, 2), (3, 0)), (4, 2)),
            ("both_prices", ((None, None, 1), (None, 0, None)), (None, None, None)),
            ("both_prices", ((0,), (0,)), (0,)),
            ("both_prices", (FEES, FEES[:5]), UNFIT), ("both_prices", ((1,), (1, 1)), UNFIT),
            ("both_prices", ((), (1,)), UNFIT),
        )

    def test_roughness(self):
        flat = (9, ((3, 3), (3, 4)))
        check_calls(
            self, ("roughness", (DOT, 0), 0), ("roughness", (flat, 0), 0), ("roughness", (flat, 3), 1),
            ("roughness", (FACE, 3), 9), ("roughness", ((255, ((0, 255, 254),)), 2), 1),
            ("rough_prices", (DOT, 9), (None,)),
            ("roughness", ((255, ((7,), (200,), (0,))), 1), 200), ("rough_prices", (flat, 1), (None, 1, 1, 1)),
            ("rough_prices", (FACE, 10), (5, 6, 6, 1, 1, 5)), ("rough_prices", (flat, 9), (None, 8, 8, 8)),
            ("roughness", (DOT, 1), no_cell(1)), ("roughness", (FACE, -1), no_cell(-1)),
            ("roughness", (FACE, 6), no_cell(6)),
        )

    def test_costs(self):
        later, lower = (9, ((5, 4, 6), (0, 8, 4))), (9, ((4, 4, 8), (0, 9, 5)))
        check_calls(
            self, ("barred_touched", (FACE, FACE, FEES), ()), ("barred_touched", (FACE, later, FEES), ()),
            ("barred_touched", (FACE, lower, (1,) * 6), ()), ("barred_touched", (FACE, lower, (None,) * 6), (0, 1, 5)),
            ("cost", (FACE, FACE, (None,) * 6), 0), ("cost", (FACE, later, (1,) * 6), 4),
            ("cost", (FACE, lower, FEES), UNFIT),
            ("cost", (FACE, later, (0,) * 6), 0), ("cost", (later, FACE, FEES), 3),
            ("within", (FACE, FACE, FEES, 0), True),
            ("within", (FACE, FACE, FEES, -1), False), ("within", (FACE, lower, FEES, 10 ** 6), False),
            ("within", (FACE, lower, (1,) * 6, 3), True), ("within", (FACE, lower, (1,) * 6, 2), False),
            ("cost", (DOT, (4, ((0,),)), (1000,)), 3000), ("cost", (DOT, (4, ((0,),)), (None,)), UNFIT),
        )

    def test_what_does_not_go_together(self):
        for name, more in (("barred_touched", ()), ("cost", ()), ("within", (5,))):
            for one, other, prices in ((FACE, FACE, FEES[:5]), (FACE, FACE, FEES + (1,)), (FACE, FACE, ()),
                                       (FACE, DOT, FEES), (FACE, DOT, (1,)), (DOT, FACE, FEES),
                                       (FACE, (8, ((5, 5, 8), (0, 8, 4))), FEES),
                                       (FACE, (9, ((5, 5), (8, 0), (9, 4))), FEES)):
                check_calls(self, (name, (one, other, prices) + more, UNFIT))
        for prices in (FEES[:5], FEES + (None,), ()):
            check_calls(
                self, ("rest_prices", (FACE, prices, 0, 3), UNFIT), ("rest_prices", (FACE, prices, 6, 3), UNFIT),
                ("rest_prices", (FACE, prices, -1, 3), UNFIT),
                ("cost_of_rests", (FACE, prices, 2, (1, 1, 0, 0, 1, 0)), UNFIT),
            )
        for digits in ((1, 1, 0, 0, 1), (1, 1, 0, 0, 1, 0, 0), (), (1, 1, 0, 0, 1, 2), (1, 1, 0, 0, 1, -1)):
            check_calls(
                self, ("with_rests", (FACE, 2, digits), UNFIT), ("cost_of_rests", (FACE, FEES, 2, digits), UNFIT),
            )
        check_calls(self, ("with_rests", (DOT, 3, (3,)), UNFIT), ("with_rests", (DOT, 5, (5,)), UNFIT))

    def test_numbers_that_are_none_of_a_cell(self):
        for cell in (-1, 6, 100, -7):
            check_calls(
                self, ("rest_prices", (FACE, FEES, cell, 2), no_cell(cell)), ("roughness", (FACE, cell), no_cell(cell)),
                ("cheapest_grey", (FACE, cell, 5, 4), no_cell(cell)),
            )

    def test_cheapest_greys(self):
        ends = (255, ((0, 255, 128),))
        check_calls(
            self, ("greys_for", (DOT, 2, 0), (0, 2, 4)), ("greys_for", (DOT, 5, 4), (4,)),
            ("greys_for", (DOT, 3, 1), (1, 4)),
            ("greys_for", (ends, 5, 0), tuple(range(0, 256, 5))), ("cheapest_grey", (ends, 0, 5, 4), 4),
            ("cheapest_grey", (ends, 1, 5, 1), 251), ("cheapest_grey", (ends, 2, 2, 1), 127),
            ("cheapest_grey", (DOT, 0, 2, 0), 2),
            ("cheapest_grey", (DOT, 0, 3, 2), 2), ("cheapest_grey", (DOT, 0, 5, 0), 0),
            ("cheapest_grey", (DOT, 0, 3, 0), 3),
            ("rest_prices", (DOT, (2,), 0, 5), (6, 4, 2, 0, 2)), ("rest_prices", (DOT, (0,), 0, 2), (0, 0)),
            ("rest_prices", (DOT, (None,), 0, 3), (0, None, None)),
            ("rest_prices", (ends, (1, 1, 1), 1, 5), (0, 4, 3, 2, 1)),
            ("rest_prices", (FACE, FEES, 5, 2), (0, None)), ("rest_prices", (FACE, FEES, 2, 3), (0, 0, 0)),
        )

    def test_rests_of_pictures(self):
        check_calls(
            self, ("with_rests", (DOT, 2, (0,)), (4, ((2,),))), ("with_rests", (DOT, 5, (3,)), DOT),
            ("with_rests", (FACE, 3, (0, 1, 2, 2, 2, 0)), (9, ((6, 4, 8), (2, 8, 3)))),
            ("cost_of_rests", (DOT, (None,), 2, (1,)), 0), ("cost_of_rests", (DOT, (None,), 2, (0,)), None),
            ("cost_of_rests", (DOT, (7,), 2, (0,)), 7), ("cost_of_rests", (DOT, (0,), 5, (0,)), 0),
            ("cost_of_rests", (FACE, FEES, 3, (2, 1, 2, 2, 2, 1)), 2 + 10 + 1),
            ("cost_of_rests", (FACE, FEES, 3, (0, 1, 2, 2, 2, 1)), None),
        )


class GuaranteesTest(unittest.TestCase):
    def test_costs_over_all_small_pictures(self):
        for one, other, prices in pairs_of_pictures():
            pairs = list(zip(greys(one), greys(other), prices))
            barred = tuple(cell for cell, (old, new, price) in enumerate(pairs) if price is None and old != new)
            self.assertEqual(barred_touched(one, other, prices), barred)
            told = outcome("cost", (one, other, prices))
            self.assertEqual(told, outcome("cost", (other, one, prices)))
            if barred:
                self.assertEqual(told, UNFIT)
                self.assertIs(within(one, other, prices, 10 ** 9), False)
            else:
                self.assertEqual(told, sum(price * abs(old - new) for old, new, price in pairs if price is not None))
                for budget in (told - 1, told, told + 1):
                    self.assertIs(within(one, other, prices, budget), budget >= told)

    def test_cost_over_a_third_picture_is_never_less(self):
        pictures = [(4, ((near, far),)) for near in (0, 1, 3, 4) for far in (0, 2)]
        for one, other, third in itertools.product(pictures, repeat=3):
            self.assertLessEqual(cost(one, other, (1, 3)), cost(one, third, (1, 3)) + cost(third, other, (1, 3)))

    def test_cheapest_greys_over_all_greys(self):
        for top in (4, 5, 6, 7, 11, 255):
            for own, p in itertools.product(range(top + 1), brute.PRIMES):
                picture = (top, ((own,),))
                for rest in range(p):
                    choice = [grey for grey in range(top + 1) if grey % p == rest]
                    self.assertEqual(greys_for(picture, p, rest), tuple(choice))
                    least = min(abs(own - grey) for grey in choice)
                    told = cheapest_grey(picture, 0, p, rest)
                    self.assertEqual(told, min(grey for grey in choice if abs(own - grey) == least))
                    self.assertLessEqual(least, p // 2 if p // 2 <= own <= top - p // 2 else p - 1)
                    self.assertEqual(with_rests(picture, p, (rest,)), (top, ((told,),)))
                    self.assertEqual(rest_prices(picture, (3,), 0, p)[rest], 3 * least)
                    barred = rest_prices(picture, (None,), 0, p)[rest]
                    self.assertEqual(barred, 0 if rest == own % p else None)

    def test_with_rests_is_never_dearer_than_another_picture_with_these_rests(self):
        for top, p in ((4, 2), (6, 2), (5, 3), (4, 5), (6, 5)):
            pictures = list(brute.pictures_of(top, 1, 2))
            of_rests = {}
            for other in pictures:
                of_rests.setdefault(rests(other, p), []).append(other)
            for picture in pictures[::3]:
                for digits, others in of_rests.items():
                    self.check_cheapest(picture, p, digits, others)

    def check_cheapest(self, picture, p, digits, others):
        told = with_rests(picture, p, digits)
        self.assertTrue(is_picture(told) and like_shape(picture, told))
        self.assertEqual(rests(told, p), digits)
        for prices in ((1, 1), (0, 4), (None, 2), (3, None), (None, None), (0, 0)):
            costs = [
                sum(price * abs(old - new) for old, new, price in zip(greys(picture), greys(other), prices) if price)
                for other in others if all(price is not None or old == new for old, new, price
                                           in zip(greys(picture), greys(other), prices))
            ]
            self.assertEqual(cost_of_rests(picture, prices, p, digits), min(costs) if costs else None)
            self.assertEqual(outcome("cost", (picture, told, prices)), min(costs) if costs else UNFIT)
            each = [rest_prices(picture, prices, cell, p)[digit] for cell, digit in enumerate(digits)]
            self.assertEqual(None if None in each else sum(each), min(costs) if costs else None)

    def test_prices_of_many_cells(self):
        for picture in (brute.patterned(255, 8, 8, 11), brute.patterned(4, 8, 8, 3), brute.patterned(9, 3, 2, 5)):
            tones = greys(picture)
            places = [divmod(cell, len(picture[1][0])) for cell in range(len(tones))]
            rough = [
                max(abs(tone - other) for other, place in zip(tones, places)
                    if abs(place[0] - own[0]) + abs(place[1] - own[1]) == 1)
                for tone, own in zip(tones, places)
            ]
            self.assertEqual([roughness(picture, cell) for cell in range(len(tones))], rough)
            for most in (1, 5, 300):
                told = rough_prices(picture, most)
                self.assertEqual(told, tuple(None if own == 0 else max(1, most - own) for own in rough))
                self.assertIs(is_prices(picture, told), True)
                self.assertEqual(sorted(free_cells(told) + barred_cells(told)), list(range(len(tones))))

    def test_barring_and_weighing(self):
        for prices in itertools.product((None, 0, 3), repeat=3):
            for lot in ((), (0,), (2,), (0, 1), (1, 2), (0, 1, 2)):
                barred, freed = barring(prices, lot), weighing(prices, lot, 5)
                self.assertEqual(barred_cells(barred), tuple(sorted(set(barred_cells(prices)) | set(lot))))
                self.assertEqual(free_cells(freed), tuple(sorted(set(free_cells(prices)) | set(lot))))
                for cell in range(3):
                    self.assertEqual(barred[cell], None if cell in lot else prices[cell])
                    self.assertEqual(freed[cell], 5 if cell in lot else prices[cell])
                self.assertEqual(both_prices(prices, barred), both_prices(barred, prices))
                self.assertEqual(free_cells(both_prices(prices, barred)), free_cells(barred))
        self.assertEqual(even_prices((4, ((0,) * 8,) * 8), 2), (2,) * 64)


if __name__ == "__main__":
    unittest.main()
