"""[4]: DIGITS and ROWS."""

import unittest

from drycells.digits import (
    all_rows, are_multiples, contrary_digit, digit_sum, divided_digit, figures_for, inverse_digit, led_row, led_rows,
    row_at, row_less, row_number, row_product, row_sum, row_times, sum_of_multiples,
)
from tests import brute
from tests.checks import Raises, check_calls, check_things

UNFIT, TOO_MANY = Raises("Unfit"), Raises("TooMany")


class ThingsTest(unittest.TestCase):
    def test_is_prime(self):
        check_things(self, "is_prime", (), (2, 3, 5), (0, 1, 4, 6, 7, 9, 25, -2, -3, 11, "2", (2,)))

    def test_is_digit(self):
        for p in brute.PRIMES:
            check_things(self, "is_digit", (p,), tuple(range(p)), (p, p + 1, -1, -p, 10 ** 20, (0,), "1"))

    def test_is_row(self):
        for p in brute.PRIMES:
            right = ((0,), (p - 1,), (0, 1, p - 1), (1,) * 30)
            wrong = ((p,), (0, p), (0, -1), ((0,),), (0, 1, "1"), (1, None))
            fine = ((), (2, 1, 0), (4, 0))[:{2: 1, 3: 2, 5: 3}[p]]
            check_things(self, "is_row", (p,), right, wrong, fine)


class DigitsTest(unittest.TestCase):
    def test_sums_and_contraries(self):
        check_calls(
            self, ("digit_sum", (2, ()), 0), ("digit_sum", (2, (1, 1, 1)), 1), ("digit_sum", (3, (2, 2, 2, 2)), 2),
            ("digit_sum", (5, (4, 4, 3)), 1), ("digit_sum", (5, (4,) * 100), 0), ("contrary_digit", (2, 1), 1),
            ("contrary_digit", (3, 0), 0), ("contrary_digit", (3, 1), 2), ("contrary_digit", (5, 4), 1),
        )

    def test_inverses(self):
        check_calls(
            self, ("inverse_digit", (2, 1), 1), ("inverse_digit", (3, 2), 2), ("inverse_digit", (5, 2), 3),
            ("inverse_digit", (5, 4), 4), ("inverse_digit", (2, 0), UNFIT), ("inverse_digit", (3, 0), UNFIT),
            ("inverse_digit", (5, 0), UNFIT), ("divided_digit", (5, 1, 2), 3), ("divided_digit", (5, 3, 4), 2),
            ("divided_digit", (3, 0, 2), 0), ("divided_digit", (3, 1, 2), 2), ("divided_digit", (2, 1, 1), 1),
            ("divided_digit", (5, 0, 0), UNFIT), ("divided_digit", (2, 1, 0), UNFIT),
        )

    def test_each_digit_has_one_contrary_and_one_inverse(self):
        for p in brute.PRIMES:
            for digit in range(p):
                self.assertEqual([own for own in range(p) if (own + digit) % p == 0], [contrary_digit(p, digit)])
                for other in range(1, p):
                    told = [own for own in range(p) if own * other % p == digit]
                    self.assertEqual(told, [divided_digit(p, digit, other)])
                if digit != 0:
                    self.assertEqual([own for own in range(p) if own * digit % p == 1], [inverse_digit(p, digit)])


class RowsTest(unittest.TestCase):
    def test_plain_rows(self):
        check_calls(
            self, ("zero_row", (0,), ()), ("zero_row", (3,), (0, 0, 0)), ("unit_row", (1, 0), (1,)),
            ("unit_row", (3, 0), (1, 0, 0)), ("unit_row", (3, 2), (0, 0, 1)), ("unit_row", (3, 3), UNFIT),
            ("unit_row", (0, 0), UNFIT), ("unit_row", (2, 9), UNFIT),
        )

    def test_sums(self):
        check_calls(
            self, ("row_sum", (2, (1, 0, 1), (1, 1, 0)), (0, 1, 1)), ("row_sum", (5, (), ()), ()),
            ("row_sum", (5, (4, 1), (4, 3)), (3, 4)), ("row_less", (5, (1, 4), (3, 4)), (3, 0)),
            ("row_less", (2, (0, 1), (1, 1)), (1, 0)), ("row_less", (3, (), ()), ()),
            ("row_times", (3, 2, (0, 1, 2)), (0, 2, 1)), ("row_times", (5, 0, (1, 4)), (0, 0)),
            ("row_times", (2, 1, ()), ()), ("row_times", (5, 4, (4, 2)), (1, 3)),
            ("row_product", (5, (4, 3), (4, 2)), 2), ("row_product", (3, (2, 2), (2, 1)), 0),
            ("row_product", (2, (1, 1, 1), (1, 0, 1)), 0), ("row_product", (5, (), ()), 0),
        )

    def test_rows_of_unlike_length(self):
        for name in ("row_sum", "row_less", "row_product", "are_multiples"):
            check_calls(
                self, (name, (2, (1, 0), (1,)), UNFIT), (name, (3, (), (0,)), UNFIT),
                (name, (5, (0, 0), (0, 0, 0)), UNFIT),
            )

    def test_sum_of_multiples(self):
        check_calls(
            self, ("sum_of_multiples", (2, 3, ((1, 1, 0), (0, 1, 1)), (1, 1)), (1, 0, 1)),
            ("sum_of_multiples", (5, 2, ((1, 4), (2, 2), (0, 3)), (3, 4, 1)), (1, 3)),
            ("sum_of_multiples", (5, 0, ((), ()), (3, 4)), ()), ("sum_of_multiples", (5, 3, (), ()), (0, 0, 0)),
            ("sum_of_multiples", (2, 2, ((1, 1),), (1, 1)), UNFIT),
            ("sum_of_multiples", (2, 2, ((1, 1),), ()), UNFIT), ("sum_of_multiples", (2, 2, (), (0,)), UNFIT),
            ("sum_of_multiples", (2, 2, ((1, 1), (1,)), (1, 0)), UNFIT),
            ("sum_of_multiples", (2, 2, ((1, 1, 1), (1, 0)), (0, 1)), UNFIT),
            ("sum_of_multiples", (3, 1, ((1, 1),), (2,)), UNFIT),
        )

    def test_led_rows_and_multiples(self):
        check_calls(
            self, ("marked_places", ((),), ()), ("marked_places", ((0, 0),), ()),
            ("marked_places", ((4, 0, 3),), (0, 2)),
            ("led_row", (2, (0, 1, 1)), (0, 1, 1)), ("led_row", (3, (2, 0, 1)), (1, 0, 2)),
            ("led_row", (5, (4, 2)), (1, 3)), ("led_row", (5, (0, 0)), UNFIT), ("led_row", (3, ()), UNFIT),
            ("are_multiples", (2, (), ()), True), ("are_multiples", (5, (0, 0), (0, 1)), False),
            ("are_multiples", (5, (0, 1), (0, 0)), False), ("are_multiples", (5, (1, 2), (4, 3)), True),
            ("are_multiples", (5, (1, 2), (4, 2)), False), ("are_multiples", (2, (1, 0), (1, 0)), True),
        )

    def test_numbers(self):
        check_calls(
            self, ("row_number", (2, ()), 0), ("row_number", (2, (1, 1, 0)), 6), ("row_number", (5, (0, 3, 4)), 19),
            ("row_number", (5, (4,) * 30), 5 ** 30 - 1), ("row_at", (2, 3, 6), (1, 1, 0)),
            ("row_at", (5, 3, 19), (0, 3, 4)), ("row_at", (5, 3, 124), (4, 4, 4)), ("row_at", (5, 3, 125), UNFIT),
            ("row_at", (2, 0, 0), ()), ("row_at", (2, 0, 1), UNFIT), ("row_at", (3, 2, 9), UNFIT),
            ("row_at", (3, 2, 8), (2, 2)), ("row_at", (3, 40, 3 ** 40), UNFIT), ("figures_for", (2, 1), 1),
            ("figures_for", (5, 4), 1), ("figures_for", (5, 5), 2), ("figures_for", (3, 26), 3),
            ("figures_for", (3, 27), 4), ("figures_for", (5, 0), 0), ("figures_for", (2, 2 ** 70), 71),
        )

    def test_all_rows_just_at_and_above_the_bound(self):
        for p, most in ((2, 9), (3, 6), (5, 4)):
            for name in ("all_rows", "led_rows"):
                check_calls(self, (name, (p, most + 1), TOO_MANY), (name, (p, 10 ** 9), TOO_MANY))
            self.assertEqual(all_rows(p, most), brute.rows_of(p, most))
            self.assertEqual(len(led_rows(p, most)), (p ** most - 1) // (p - 1))
        check_calls(
            self, ("all_rows", (5, 0), [()]), ("all_rows", (3, 1), [(0,), (1,), (2,)]), ("led_rows", (5, 0), []),
            ("led_rows", (5, 1), [(1,)]), ("led_rows", (2, 2), [(0, 1), (1, 0), (1, 1)]),
        )


class GuaranteesTest(unittest.TestCase):
    def test_rows_and_their_numbers(self):
        for p in brute.PRIMES:
            for many in range(4):
                rows = brute.rows_of(p, many)
                self.assertEqual(all_rows(p, many), rows)
                self.assertEqual([row_number(p, row) for row in rows], list(range(p ** many)))
                self.assertEqual([row_at(p, many, number) for number in range(p ** many)], rows)
                for number in range(1, p ** many):
                    length = figures_for(p, number)
                    self.assertEqual(row_number(p, row_at(p, length, number)), number)
                    self.assertNotEqual(row_at(p, length, number)[0], 0)

    def test_each_row_is_a_multiple_of_just_one_led_row(self):
        for p in brute.PRIMES:
            for many in range(4):
                led = led_rows(p, many)
                self.assertEqual(len(led), (p ** many - 1) // (p - 1))
                self.assertEqual(led, sorted(led))
                for row in brute.rows_of(p, many):
                    multiples = [tuple(d * own % p for own in row) for d in range(1, p)]
                    found = [own for own in led if own in multiples]
                    self.assertEqual(found, [led_row(p, row)] if any(row) else [])
                    self.assertEqual([own for own in led if are_multiples(p, own, row)], found)

    def test_sums_less_times_products(self):
        for p, many in ((2, 3), (3, 2), (5, 2), (5, 1), (3, 0)):
            rows = brute.rows_of(p, many)
            for one in rows:
                for other in rows:
                    told = row_sum(p, one, other)
                    self.assertEqual(told, tuple((a + b) % p for a, b in zip(one, other)))
                    self.assertEqual(row_less(p, told, other), one)
                    self.assertEqual(row_product(p, one, other), brute.product_of(p, one, other))
                    multiples = [row_times(p, digit, one) for digit in range(p)]
                    self.assertEqual(multiples, [tuple(d * own % p for own in one) for d in range(p)])
                    self.assertEqual(are_multiples(p, one, other), other in multiples[1:])

    def test_products_of_sums_are_sums_of_products(self):
        for p, many in ((2, 2), (3, 2), (5, 1)):
            for rows in brute.grids_of(p, many, 2):
                for digits in brute.rows_of(p, 2):
                    told = sum_of_multiples(p, many, rows, digits)
                    self.assertEqual(told, brute.sum_by(p, many, rows, digits))
                    for own in brute.rows_of(p, many):
                        products = [digit * row_product(p, own, row) % p for row, digit in zip(rows, digits)]
                        self.assertEqual(row_product(p, own, told), digit_sum(p, products))

    def test_a_row_with_all_products_0_is_that_of_zeros(self):
        for p in brute.PRIMES:
            rows = brute.rows_of(p, 2)
            silent = [one for one in rows if not any(row_product(p, one, other) for other in rows)]
            self.assertEqual(silent, [(0, 0)])


if __name__ == "__main__":
    unittest.main()
