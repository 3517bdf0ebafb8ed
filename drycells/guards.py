"""Guards: MESSAGES read in spite of forged CELLS, or two PICTURES that show why not."""

from drycells.digits import all_rows, is_digit, row_less, sum_of_multiples, zero_row
from drycells.errors import NoPaper, Unfit
from drycells.keys import check_columns_and_primes, stacked
from drycells.most import few_columns, needs_of
from drycells.pictures import (
    cells_in, check_like, is_picture, like_shape, picture_of, rests, shape_of, touched_cells,
)
from drycells.plain import is_number
from drycells.prices import with_rests
from drycells.reading import check_message, check_picture, reading


def is_guarded(picture, guard):
    """Whether guard reads all zeros; Unfit() if it has not as many columns as picture has CELLS."""
    return not any(reading(picture, guard))


def is_forging(key, thing):
    """Whether thing is a FORGING of CELLS of key."""
    if not isinstance(thing, tuple) or not all(_is_change(key, part) for part in thing):
        return False
    cells = [cell for cell, _ in thing]
    return cells == sorted(set(cells))


def _is_change(key, thing):
    """Whether thing is a pair of a CELL and a DIGIT that is not 0."""
    if not isinstance(thing, tuple) or len(thing) != 2:
        return False
    cell, digit = thing
    return is_number(cell) and 0 <= cell < len(key[2]) and is_digit(key[0], digit) and digit != 0


def _forging_of(digits):
    """The FORGING that adds these DIGITS, CELL by CELL."""
    return tuple([(cell, digit) for cell, digit in enumerate(digits) if digit != 0])


def sums_of(key, guard, forging):
    """The sums of forging, by guard and by key; Unfit() if key and guard do not go together."""
    check_columns_and_primes(key, guard)
    return (_sum_of(guard, forging), _sum_of(key, forging))


def _sum_of(key, forging):
    """The sum of forging by key alone."""
    p, many, columns = key
    return sum_of_multiples(p, many, [columns[cell] for cell, _ in forging], [digit for _, digit in forging])


def forged_picture(picture, p, forging):
    """The PICTURE with the CHEAPEST GREYS for the RESTS behind forging; Unfit() if picture has not its CELLS."""
    digits = list(rests(picture, p))
    for cell, digit in forging:
        if not 0 <= cell < len(digits):
            raise Unfit()
        digits[cell] = (digits[cell] + digit) % p
    return with_rests(picture, p, digits)


def forging_between(one, other, p):
    """The FORGING from the RESTS of one to those of other; Unfit() if they are not like in shape."""
    check_like(one, other)
    return _forging_of(row_less(p, rests(other, p), rests(one, p)))


def _least_false_sum(key, guard):
    """The sum, by guard and key in one ROW, of a false FORGING of the fewest CELLS, with their number; or None."""
    needs = needs_of(stacked(guard, key))
    calm = zero_row(guard[1])
    sums = [calm + row for row in all_rows(key[0], key[1]) if any(row)]
    return min([(needs[row], row) for row in sums if row in needs], default=None)


def least_false(key, guard):
    """The least number of CELLS of a false FORGING, None if there is none; Unfit(), then TooMany()."""
    found = _least_false_sum(key, guard)
    return None if found is None else found[0]


def false_forging(key, guard):
    """A false FORGING of so many CELLS; Unfit(), then TooMany(); NoPaper() if there is none."""
    found = _least_false_sum(key, guard)
    if found is None:
        raise NoPaper()
    return _forging_of(few_columns(stacked(guard, key), found[1]))


def is_false_forging(key, guard, most, thing):
    """Whether thing is a false FORGING of at most most CELLS; Unfit() if key and guard do not go together."""
    check_columns_and_primes(key, guard)
    if not is_forging(key, thing) or len(thing) > most:
        return False
    calm, turned = sums_of(key, guard, thing)
    return not any(calm) and any(turned)


def mends(key, guard, most):
    """Whether each false FORGING has more than 2 most CELLS; Unfit(), then TooMany()."""
    least = least_false(key, guard)
    return least is None or least > 2 * most


def most_mended(key, guard):
    """The greatest number that mends, None if no FORGING is false; Unfit(), then TooMany()."""
    least = least_false(key, guard)
    return None if least is None else (least - 1) // 2


def most_told(key, guard):
    """The greatest number below that of the CELLS of each false FORGING, None without one; Unfit(), TooMany()."""
    least = least_false(key, guard)
    return None if least is None else least - 1


def messages_behind(key, guard, picture, most):
    """The set of the READINGS of all guarded PICTURES within most touched CELLS; Unfit(), then TooMany()."""
    check_picture(picture, key)
    both = stacked(guard, key)
    needs, seen = needs_of(both), reading(picture, both)
    turns = [(row, _turn_to(guard, seen, row)) for row in all_rows(key[0], key[1])]
    return tuple([row for row, turn in turns if turn in needs and needs[turn] <= most])


def _turn_to(guard, seen, message):
    """What leads from seen, a READING by guard and key in one ROW, to that of what is guarded and reads as message."""
    return row_less(guard[0], zero_row(guard[1]) + tuple(message), seen)


def mended(key, guard, picture, most):
    """The only one of messages_behind; Unfit(), then TooMany(); NoPaper() if there are none, or several."""
    found = messages_behind(key, guard, picture, most)
    if len(found) != 1:
        raise NoPaper()
    return found[0]


def forging_behind(key, guard, picture, message, most):
    """A FORGING, at most most CELLS, the fewest, to a guarded PICTURE that reads as message; NoPaper() without."""
    _check_behind(key, guard, picture, message)
    both = stacked(guard, key)
    found = _forging_of(few_columns(both, _turn_to(guard, reading(picture, both), message)))
    if len(found) > most:
        raise NoPaper()
    return found


def _check_behind(key, guard, picture, message):
    """Unfit() if these do not go together."""
    check_columns_and_primes(key, guard)
    check_picture(picture, key)
    check_message(key, message)


def is_forging_behind(key, guard, picture, message, most, thing):
    """Whether thing, of at most most CELLS, is a FORGING to a guarded PICTURE that reads as message; Unfit()."""
    _check_behind(key, guard, picture, message)
    if not is_forging(key, thing) or len(thing) > most:
        return False
    both = stacked(guard, key)
    return _sum_of(both, thing) == _turn_to(guard, reading(picture, both), message)


def two_forgeries(key, guard, picture, most):
    """Two guarded PICTURES of unlike READINGS, each most CELLS or less from a third; NoPaper() if mends."""
    check_picture(picture, key)
    if mends(key, guard, most):
        raise NoPaper()
    p, forging = key[0], false_forging(key, guard)
    top, _, wide = shape_of(picture)
    # All zeros is guarded, whatever the guard.
    one = picture_of(top, wide, zero_row(cells_in(picture)))
    return (one, forged_picture(one, p, forging), forged_picture(one, p, forging[:most]))


def is_two_forgeries(key, guard, most, thing):
    """Whether thing is such a triple, like in shape, with as many CELLS as key has columns; Unfit()."""
    check_columns_and_primes(key, guard)
    if not isinstance(thing, tuple) or len(thing) != 3 or not all(is_picture(part) for part in thing):
        return False
    one, other, seen = thing
    if cells_in(one) != len(key[2]) or not like_shape(one, other) or not like_shape(one, seen):
        return False
    if not is_guarded(one, guard) or not is_guarded(other, guard) or reading(one, key) == reading(other, key):
        return False
    return len(touched_cells(one, seen)) <= most and len(touched_cells(other, seen)) <= most
