"""How many touches are needed, for each MESSAGE, if nothing is barred."""

from math import comb, gcd

from drycells.digits import all_rows, is_row, marked_places, row_less, row_sum, row_times, sum_of_multiples, zero_row
from drycells.errors import NoPaper
from drycells.grids import is_grid
from drycells.keys import check_small
from drycells.pictures import is_picture, like_shape, rests, touched_cells
from drycells.plain import power
from drycells.prices import with_rests
from drycells.reading import check_message, lack, reading


def _check_row(key, row):
    """Unfit() if row is no ROW of many DIGITS of key, then TooMany() if key is not small."""
    check_message(key, row)
    check_small(key)


def _turns(key):
    """The list of the ROWS, but that of zeros, that come of a column by a DIGIT."""
    p, _, columns = key
    return sorted({row_times(p, digit, column) for column in columns for digit in range(1, p) if any(column)})


def needs_of(key):
    """The dict that has, for each ROW in reach, how many columns it needs; TooMany() if key is not small."""
    check_small(key)
    p, many, _ = key
    turns, number = _turns(key), 0
    needs, layer = {}, [zero_row(many)]
    while layer != []:
        for row in layer:
            needs[row] = number
        number += 1
        layer = sorted({row for row in _with_one_more(p, layer, turns) if row not in needs})
    return needs


def _with_one_more(p, rows, turns):
    """The list of rows, and of these with each of turns added."""
    return rows + [row_sum(p, row, turn) for row in rows for turn in turns]


def columns_needed(key, row):
    """How many columns row needs, None if it is out of reach; Unfit() if it is no ROW of key, then TooMany()."""
    _check_row(key, row)
    return needs_of(key).get(tuple(row))


def needs_counted(key):
    """The tuple of how many ROWS need 0, 1, .. columns, to the greatest number that one needs; TooMany()."""
    found = list(needs_of(key).values())
    return tuple([found.count(number) for number in range(max(found) + 1)])


def _out_of_reach(key, needs):
    """The set of the ROWS that are no sum of multiples of the columns."""
    return tuple([row for row in all_rows(key[0], key[1]) if row not in needs])


def most_touches(key):
    """The greatest number of columns that a ROW needs, None if one is out of reach; TooMany()."""
    needs = needs_of(key)
    if _out_of_reach(key, needs) != ():
        return None
    return max(list(needs.values()))


def mean_touches(key):
    """The mean of the numbers of columns that all ROWS need, a FRACTION; None if one is out of reach; TooMany()."""
    needs = needs_of(key)
    if _out_of_reach(key, needs) != ():
        return None
    above, below = sum(list(needs.values())), len(needs)
    shared = gcd(above, below)
    return (above // shared, below // shared)


def worst_rows(key):
    """The set of the ROWS that need most; of those out of reach, if there are any; TooMany()."""
    needs = needs_of(key)
    lost = _out_of_reach(key, needs)
    if lost != ():
        return lost
    most = max(list(needs.values()))
    return tuple(sorted([row for row in needs if needs[row] == most]))


def few_columns(key, row):
    """MULTIPLES with the sum row that use as few CELLS as can be; Unfit(), TooMany(); NoPaper() out of reach."""
    _check_row(key, row)
    needs, left = needs_of(key), tuple(row)
    if left not in needs:
        raise NoPaper()
    digits = [0] * len(key[2])
    while needs[left] > 0:
        cell, digit, left = _lesser_rows(key, needs, left)[0]
        digits[cell] = digit
    return tuple(digits)


def _lesser_rows(key, needs, row):
    """The list of (cell, digit, what is left of row without this multiple), this needing one column less."""
    p, _, columns = key
    choices = [
        (cell, digit, row_less(p, row, row_times(p, digit, column)))
        for cell, column in enumerate(columns) for digit in range(1, p)
    ]
    return [(cell, digit, left) for cell, digit, left in choices if needs[left] < needs[row]]


def is_few_columns(key, row, thing):
    """Whether thing is MULTIPLES with the sum row that use as few CELLS as can be; Unfit(), TooMany()."""
    needed = columns_needed(key, row)
    p, many, columns = key
    if not is_row(p, thing) or len(thing) != len(columns):
        return False
    return sum_of_multiples(p, many, columns, thing) == tuple(row) and len(marked_places(thing)) == needed


def far_paper(key, row):
    """A FAR PAPER for row and the number of columns that it needs; Unfit(), TooMany(); NoPaper() out of reach."""
    _check_row(key, row)
    needs, aim = needs_of(key), tuple(row)
    if aim not in needs:
        raise NoPaper()
    return tuple([tuple(sorted([own for own in needs if needs[own] <= most])) for most in range(needs[aim])])


def is_far_paper(key, row, number, thing):
    """Whether thing is a FAR PAPER for row and number; Unfit(), TooMany()."""
    _check_row(key, row)
    p, many, _ = key
    if not isinstance(thing, tuple) or len(thing) != number or not all(_is_row_set(p, many, rows) for rows in thing):
        return False
    turns, aim = _turns(key), tuple(row)
    asked, ahead = {zero_row(many): True}, {}
    for rows in thing:
        held = {own: True for own in rows}
        if aim in held or not all(own in held for own in asked):
            return False
        # What comes of the ROWS of the set ahead is asked for already.
        fresh = [own for own in rows if own not in ahead]
        for led in _with_one_more(p, fresh, turns):
            asked[led] = True
        ahead = held
    return True


def _is_row_set(p, many, thing):
    """Whether thing is a set of ROWS of many DIGITS."""
    return is_grid(p, many, thing) and thing == tuple(sorted(set(thing)))


def touches_needed(picture, key, message):
    """The fewest touched CELLS of a PICTURE that hides message, None if nothing does; Unfit(), then TooMany()."""
    return columns_needed(key, lack(picture, key, message))


def touched_least(picture, key, message):
    """A PICTURE that hides message with so few touched CELLS; Unfit(), TooMany(); NoPaper() if nothing hides it."""
    p = key[0]
    turns = few_columns(key, lack(picture, key, message))
    return with_rests(picture, p, row_sum(p, rests(picture, p), turns))


def is_touched_least(picture, key, message, thing):
    """Whether thing is a PICTURE that hides message with so few touched CELLS; Unfit(), TooMany()."""
    needed = touches_needed(picture, key, message)
    if not is_picture(thing) or not like_shape(picture, thing) or reading(thing, key) != tuple(message):
        return False
    return len(touched_cells(picture, thing)) == needed


def worst_messages(picture, key):
    """The set of the READING plus each of worst_rows; Unfit(), then TooMany()."""
    seen = reading(picture, key)
    return tuple(sorted([row_sum(key[0], seen, row) for row in worst_rows(key)]))


def counted_bound(prime, many, cells):
    """The least r such that at least prime ** many MULTIPLES of so many CELLS use at most r; None without one."""
    counted = 0
    for used in range(cells + 1):
        counted += comb(cells, used) * power(prime - 1, used)
        if counted >= power(prime, many):
            return used
    return None
