"""DIGITS of a PRIME, and ROWS of them."""

from drycells.errors import TooMany, Unfit
from drycells.plain import is_above_most, is_number, many_in, power

PRIMES = (2, 3, 5)


def is_prime(thing):
    """Whether thing is a PRIME."""
    return is_number(thing) and thing in PRIMES


def is_digit(p, thing):
    """Whether thing is a DIGIT of p."""
    return isinstance(thing, int) and not isinstance(thing, bool) and 0 <= thing < p


def is_row(p, thing):
    """Whether thing is a ROW of p, of whatever length."""
    return isinstance(thing, tuple) and all([is_digit(p, digit) for digit in thing])


def digit_sum(p, digits):
    """All digits added up."""
    return sum(digits) % p


def contrary_digit(p, digit):
    """The DIGIT that gives 0 with digit."""
    return (p - digit) % p


def inverse_digit(p, digit):
    """The DIGIT by which digit is multiplied to 1; Unfit() for 0."""
    for found in range(p):
        if found * digit % p == 1:
            return found
    raise Unfit()


def divided_digit(p, one, other):
    """The DIGIT that is multiplied by other to one; Unfit() if other is 0."""
    return one * inverse_digit(p, other) % p


def zero_row(many):
    """The ROW of many zeros."""
    return (0,) * many


def unit_row(many, place):
    """The ROW with 1 at place, else 0; Unfit() if place is not below many."""
    if place >= many:
        raise Unfit()
    return tuple([int(at == place) for at in range(many)])


def row_sum(p, one, other):
    """Both ROWS added; Unfit() if they are not of one length."""
    _check_lengths(one, other)
    return tuple([(left + right) % p for left, right in zip(one, other)])


def row_less(p, one, other):
    """The ROW that added to other is one; Unfit() if they are not of one length."""
    _check_lengths(one, other)
    return tuple([(left - right) % p for left, right in zip(one, other)])


def row_times(p, digit, row):
    """The ROW multiplied by digit."""
    return tuple([digit * own % p for own in row])


def row_product(p, one, other):
    """The product of both ROWS, a DIGIT; Unfit() if they are not of one length."""
    _check_lengths(one, other)
    return sum([left * right for left, right in zip(one, other)]) % p


def _check_lengths(one, other):
    if many_in(one) is None or many_in(one) != many_in(other):
        raise Unfit()


def sum_of_multiples(p, many, rows, digits):
    """The multiples of rows by digits, place by place, added; Unfit() if they do not go together."""
    _check_lengths(rows, digits)
    if any([many_in(row) != many for row in rows]):
        raise Unfit()
    used = [(row, digit) for row, digit in zip(rows, digits) if digit != 0]
    return tuple([sum([digit * row[place] for row, digit in used]) % p for place in range(many)])


def marked_places(row):
    """The set of the places of DIGITS that are not 0."""
    return tuple([place for place, digit in enumerate(row) if digit != 0])


def led_row(p, row):
    """The multiple of row in which the first DIGIT that is not 0 is 1; Unfit() if all are 0."""
    places = marked_places(row)
    if places == ():
        raise Unfit()
    return row_times(p, inverse_digit(p, row[places[0]]), row)


def are_multiples(p, one, other):
    """Whether other is one multiplied by a DIGIT that is not 0; Unfit() if they are not of one length."""
    _check_lengths(one, other)
    aim = tuple(other)
    return any(row_times(p, digit, one) == aim for digit in range(1, p))


def row_number(p, row):
    """The number that row tells, its first DIGIT being that of the greatest power of p."""
    number = 0
    for digit in row:
        number = number * p + digit
    return number


def row_at(p, many, number):
    """The ROW of many DIGITS with this number; Unfit() if number is not below p ** many."""
    found = []
    for _ in range(many):
        found.append(number % p)
        number = number // p
    if number != 0:
        raise Unfit()
    return tuple(found[::-1])


def figures_for(p, number):
    """The least length of a ROW that has this number."""
    length = 0
    while number > 0:
        number = number // p
        length += 1
    return length


def all_rows(p, many):
    """The list, ascending, of all ROWS of many DIGITS; TooMany() if they are above 729."""
    if is_above_most(p, many):
        raise TooMany()
    return [row_at(p, many, number) for number in range(power(p, many))]


def led_rows(p, many):
    """The list, ascending, of those of all_rows whose first DIGIT that is not 0 is 1."""
    return [row for row in all_rows(p, many) if any(row) and row == led_row(p, row)]
