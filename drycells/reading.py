"""What a PICTURE reads as by a KEY, and which MESSAGES can be read at all."""

from drycells.digits import (
    all_rows, is_row, row_less, row_number, row_product, row_sum, row_times, sum_of_multiples, zero_row,
)
from drycells.errors import Unfit
from drycells.grids import bar_row, grid_rank, is_spanned, multiples_for
from drycells.keys import check_cells, columns_in, is_message, is_word
from drycells.pictures import cells_in, is_laid_out, rests
from drycells.plain import as_tuple, is_number, many_in, power


def check_picture(picture, key):
    """Unfit() if picture has not as many CELLS as key has columns."""
    if not is_laid_out(picture) or cells_in(picture) != columns_in(key):
        raise Unfit()


def check_message(key, message):
    """Unfit() if message is none of key."""
    if not is_message(key, as_tuple(message)):
        raise Unfit()


def reading(picture, key):
    """The READING of picture by key; Unfit() if there are not as many columns as CELLS."""
    check_picture(picture, key)
    return reading_of_rests(key, rests(picture, key[0]))


def lack(picture, key, message):
    """The ROW that added to the READING gives message; Unfit() if they do not go together."""
    check_message(key, message)
    return row_less(key[0], message, reading(picture, key))


def reading_of_rests(key, digits):
    """The READING of PICTURES with these RESTS; Unfit() if they are not a DIGIT of p for each column."""
    p, many, columns = key
    if many_in(digits) != len(columns) or not is_row(p, as_tuple(digits)):
        raise Unfit()
    return sum_of_multiples(p, many, columns, digits)


def part_reading(picture, key, lot):
    """The sum of RESTS times columns over the CELLS of lot alone; Unfit() as reading."""
    check_picture(picture, key)
    own = rests(picture, key[0])
    return reading_of_rests(key, [digit if cell in lot else 0 for cell, digit in enumerate(own)])


def readings_along(picture, key):
    """The list of the part readings over the first 0, 1, .. CELLS, to all; Unfit() as reading."""
    check_picture(picture, key)
    p, many, columns = key
    along = [zero_row(many)]
    for digit, column in zip(rests(picture, p), columns):
        along.append(row_sum(p, along[-1], row_times(p, digit, column)))
    return along


def reading_behind(key, row, touches):
    """The READING, row ahead, behind these touches; Unfit() if row is no MESSAGE; NoCell of the first without one."""
    check_message(key, row)
    p, _, columns = key
    behind = tuple(row)
    for cell, old, new in touches:
        check_cells(key, (cell,))
        behind = row_sum(p, behind, row_times(p, new - old, columns[cell]))
    return behind


def same_reading(near, far, key):
    """Whether both PICTURES have one READING; Unfit() as reading, for both."""
    return reading(near, key) == reading(far, key)


def read_cells(key):
    """The LOT of the CELLS in whose columns not all DIGITS are 0."""
    return tuple([cell for cell, column in enumerate(key[2]) if any(column)])


def digit_cells(key, place):
    """The LOT of the CELLS with a DIGIT that is not 0 at place; Unfit() if there is no such place."""
    _, many, columns = key
    if not is_number(place) or not 0 <= place < many:
        raise Unfit()
    return tuple([cell for cell, column in enumerate(columns) if column[place] != 0])


def can_be_read(key, message):
    """Whether some PICTURE reads as message; Unfit() if that is none of key."""
    check_message(key, message)
    p, many, columns = key
    return is_spanned(p, many, columns, message)


def rests_for(key, message):
    """The RESTS of a PICTURE that reads as message; Unfit() as can_be_read; NoPaper() if none does."""
    check_message(key, message)
    p, many, columns = key
    return multiples_for(p, many, columns, message)


def silent_word(key, message):
    """A WORD as is_silent_word has it; Unfit() as can_be_read; NoPaper() if there is none."""
    check_message(key, message)
    p, many, columns = key
    return bar_row(p, many, columns, message)


def is_silent_word(key, message, thing):
    """Whether thing is a WORD that marks no CELL, its product with message not 0; Unfit() as can_be_read."""
    check_message(key, message)
    p, _, columns = key
    if not is_word(key, thing) or row_product(p, thing, message) == 0:
        return False
    return all(row_product(p, thing, column) == 0 for column in columns)


def rests_alike(key):
    """How many ROWS of RESTS have one and the same READING, if it can be read."""
    p, many, columns = key
    return power(p, len(columns) - grid_rank(p, many, columns))


def how_many_read(key, top, message):
    """How many PICTURES of one shape, with this top, read as message; Unfit() as can_be_read, then TooMany()."""
    check_message(key, message)
    return read_counts(key, top)[row_number(key[0], message)]


def read_counts(key, top):
    """The tuple of these numbers for all MESSAGES, ascending; TooMany() if p ** many is above 729."""
    p, many, columns = key
    messages = all_rows(p, many)
    # So many GREYS from 0 to top have each REST.
    each = [(top - rest) // p + 1 for rest in range(p)]
    counts = [1] + [0] * (len(messages) - 1)
    for column in columns:
        behind = [row_number(p, row_sum(p, row, column)) for row in messages]
        counts = _counts_behind(counts, behind, each)
    return tuple(counts)


def _counts_behind(counts, behind, each):
    """The counts with one more CELL: each number of a READING leads, by one more in the REST, to that in behind."""
    further = [0] * len(counts)
    for number, count in enumerate(counts):
        led = number
        for ways in each:
            further[led] += count * ways
            led = behind[led]
    return further
