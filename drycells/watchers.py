"""What a watcher knows of an unknown KEY who has seen PICTURES with their MESSAGES."""

from itertools import combinations

from drycells.digits import is_prime, is_row, row_less, row_sum, sum_of_multiples, unit_row
from drycells.errors import NoCell, NoPaper, Unfit
from drycells.grids import (
    bar_row, fresh_rows, grid_rank, is_multiples, is_spanned, multiples_for, relations, stepped_grid, turned_grid,
)
from drycells.keys import is_key, key_by_rows
from drycells.pictures import cells_in, is_laid_out, rests
from drycells.plain import as_tuple, in_tuples, is_number, many_in, power


def _seen_in(p, pairs):
    """The pair of the tuples of the RESTS and of the messages of pairs; Unfit() if they are no PAIRS."""
    if not is_prime(p) or many_in(pairs) in (None, 0) or not all([many_in(pair) == 2 for pair in pairs]):
        raise Unfit()
    size, many = _cells_of(pairs[0][0]), many_in(pairs[0][1])
    if many in (None, 0):
        raise Unfit()
    rows = tuple([_rests_of(p, size, picture) for picture, _ in pairs])
    messages = tuple([_fitting_message(p, many, message) for _, message in pairs])
    return (rows, messages)


def _cells_of(picture):
    """How many CELLS picture has; Unfit() if it is none."""
    if not is_laid_out(picture):
        raise Unfit()
    return cells_in(picture)


def _rests_of(p, size, picture):
    """The RESTS of picture; Unfit() if it has not so many CELLS."""
    if _cells_of(picture) != size:
        raise Unfit()
    return rests(picture, p)


def _fitting_message(p, many, message):
    """The message as a tuple; Unfit() if it is no ROW of so many DIGITS."""
    own = as_tuple(message)
    if not is_row(p, own) or len(own) != many:
        raise Unfit()
    return own


def _fits(p, rows, messages, key):
    """Whether key is a KEY that reads RESTS as messages."""
    if not is_key(key) or key[:2] != (p, len(messages[0])) or len(key[2]) != len(rows[0]):
        return False
    return all([_read(key, row) == message for row, message in zip(rows, messages)])


def _read(key, row):
    """The READING of the RESTS row."""
    p, many, columns = key
    return sum_of_multiples(p, many, columns, row)


def _some_fit(p, rows, messages):
    """Whether some KEY fits: whether messages hang together as RESTS do."""
    size, many = len(rows[0]), len(messages[0])
    both = [row + message for row, message in zip(rows, messages)]
    return grid_rank(p, size, rows) == grid_rank(p, size + many, both)


def _fitted(p, rows, messages):
    """A KEY that reads RESTS as messages; NoPaper() if there is none."""
    turned_rows = turned_grid(p, len(rows[0]), rows)
    digits = turned_grid(p, len(messages[0]), messages)
    return key_by_rows(p, len(rows[0]), [multiples_for(p, len(rows), turned_rows, own) for own in digits])


def _known(p, pairs):
    """What _seen_in tells; Unfit(), then NoPaper() if no KEY fits."""
    rows, messages = _seen_in(p, pairs)
    _check_fitting(p, rows, messages)
    return (rows, messages)


def _check_fitting(p, rows, messages):
    if not _some_fit(p, rows, messages):
        raise NoPaper()


def _known_beside(p, pairs, picture):
    """The triple of RESTS and messages of pairs and the RESTS of picture; Unfit(), then NoPaper() if no KEY fits."""
    rows, messages = _seen_in(p, pairs)
    own = _rests_of(p, len(rows[0]), picture)
    _check_fitting(p, rows, messages)
    return (rows, messages, own)


def _told_of(p, rows, messages, own):
    """What all KEYS that fit read of the RESTS own; NoPaper() if they do not read them alike."""
    digits = multiples_for(p, len(own), rows, own)
    return sum_of_multiples(p, len(messages[0]), messages, digits)


def fits_pairs(p, pairs, key):
    """Whether key fits pairs; Unfit() if pairs are none, or what is handed in does not go together, here and below."""
    rows, messages = _seen_in(p, pairs)
    return _fits(p, rows, messages, in_tuples(key))


def some_key(p, pairs):
    """A KEY that fits; NoPaper() if none does."""
    rows, messages = _seen_in(p, pairs)
    return _fitted(p, rows, messages)


def how_many_keys(p, pairs):
    """How many KEYS fit."""
    rows, messages = _seen_in(p, pairs)
    return _fitting_count(p, rows, messages)


def _fitting_count(p, rows, messages):
    """How many KEYS read RESTS as messages."""
    size, many = len(rows[0]), len(messages[0])
    if not _some_fit(p, rows, messages):
        return 0
    return power(p, (size - grid_rank(p, size, rows)) * many)


def odd_row(p, pairs):
    """An ODD ROW; NoPaper() if there is none."""
    rows, messages = _seen_in(p, pairs)
    for row in relations(p, len(rows[0]), rows):
        if any(sum_of_multiples(p, len(messages[0]), messages, row)):
            return row
    raise NoPaper()


def is_odd_row(p, pairs, thing):
    """Whether thing is an ODD ROW."""
    rows, messages = _seen_in(p, pairs)
    if not is_row(p, thing) or len(thing) != len(rows) or any(sum_of_multiples(p, len(rows[0]), rows, thing)):
        return False
    return any(sum_of_multiples(p, len(messages[0]), messages, thing))


def needless_pairs(p, pairs):
    """The set of the numbers of those of pairs whose RESTS are a sum of multiples of those ahead."""
    rows, _ = _seen_in(p, pairs)
    fresh = fresh_rows(p, len(rows[0]), rows)
    return tuple([number for number in range(len(rows)) if number not in fresh])


def is_told(p, pairs, picture):
    """Whether all that fit read picture alike; NoPaper(), behind Unfit(), if no KEY fits, here and below."""
    rows, _, own = _known_beside(p, pairs, picture)
    return is_spanned(p, len(own), rows, own)


def told_message(p, pairs, picture):
    """What all that fit read in picture; NoPaper() if they do not read it alike."""
    rows, messages, own = _known_beside(p, pairs, picture)
    return _told_of(p, rows, messages, own)


def telling(p, pairs, picture):
    """A TELLING; NoPaper() if there is none."""
    rows, _, own = _known_beside(p, pairs, picture)
    return multiples_for(p, len(own), rows, own)


def is_telling(p, pairs, picture, thing):
    """Whether thing is a TELLING."""
    rows, _, own = _known_beside(p, pairs, picture)
    return is_multiples(p, len(own), rows, own, thing)


def two_keys(p, pairs, picture):
    """Two KEYS that fit and read picture unlike; NoPaper() if there are none."""
    rows, messages, own = _known_beside(p, pairs, picture)
    one = _fitted(p, rows, messages)
    # Added to a row of a KEY it changes nothing for pairs, but what is read of picture.
    bar = bar_row(p, len(own), rows, own)
    other = [row_sum(p, column[:1], (digit,)) + column[1:] for column, digit in zip(one[2], bar)]
    return (one, (p, one[1], tuple(other)))


def is_two_keys(p, pairs, picture, thing):
    """Whether thing is two KEYS that fit and read picture unlike."""
    rows, messages, own = _known_beside(p, pairs, picture)
    if not isinstance(thing, tuple) or len(thing) != 2 or not all([_fits(p, rows, messages, key) for key in thing]):
        return False
    return _read(thing[0], own) != _read(thing[1], own)


def keys_that_read(p, pairs, picture, message):
    """How many KEYS that fit read picture as message."""
    rows, messages = _seen_in(p, pairs)
    own = _rests_of(p, len(rows[0]), picture)
    asked = _fitting_message(p, len(messages[0]), message)
    _check_fitting(p, rows, messages)
    # Together with this pair they are just the KEYS that fit.
    return _fitting_count(p, rows + (own,), messages + (asked,))


def told_apart(p, pairs, near, far):
    """Whether all that fit read both PICTURES "alike", or all "unlike"; else "open"."""
    rows, messages = _seen_in(p, pairs)
    size = len(rows[0])
    turn = row_less(p, _rests_of(p, size, near), _rests_of(p, size, far))
    _check_fitting(p, rows, messages)
    if not is_spanned(p, size, rows, turn):
        return "open"
    return "unlike" if any(_told_of(p, rows, messages, turn)) else "alike"


def columns_told(p, pairs):
    """The set of the CELLS at which all that fit have one column."""
    rows, _ = _known(p, pairs)
    # A unit ROW that is spanned stands in the stepped GRID as it is.
    return tuple([row.index(1) for row in stepped_grid(p, len(rows[0]), rows) if sum(row) == 1])


def column_told(p, pairs, cell):
    """The column that all that fit have at cell; NoCell(cell), behind Unfit(); NoPaper() if they have not one."""
    rows, messages = _seen_in(p, pairs)
    size = len(rows[0])
    if not is_number(cell) or not 0 <= cell < size:
        raise NoCell(cell)
    _check_fitting(p, rows, messages)
    return _told_of(p, rows, messages, unit_row(size, cell))


def least_pairs(p, pairs, picture):
    """The least set of numbers of pairs by which alone picture is told; NoPaper() if it is not told."""
    rows, _, own = _known_beside(p, pairs, picture)
    for size in range(len(rows) + 1):
        for numbers in combinations(range(len(rows)), size):
            if is_spanned(p, len(own), [rows[number] for number in numbers], own):
                return numbers
    raise NoPaper()


def cells_to_ask(p, pairs):
    """The least set of CELLS with whose columns, told too, all are told."""
    rows, _ = _known(p, pairs)
    size = len(rows[0])
    # All others must be told by pairs then: so they are as many as can be, and the last ones of which that is so.
    turned_rows = turned_grid(p, size, rows)
    told = [size - 1 - place for place in fresh_rows(p, len(rows), turned_rows[::-1])]
    return tuple([cell for cell in range(size) if cell not in told])
