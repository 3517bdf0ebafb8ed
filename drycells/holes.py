"""Holes: what is read of a guarded PICTURE of which some GREYS are lost."""

from drycells.digits import all_rows, is_row, row_product, unit_row, zero_row
from drycells.errors import NoPaper, TooMany, Unfit
from drycells.grids import bar_row, grid_rank, is_spanned, multiples_for, relations, stepped_grid, turned_grid
from drycells.guards import forged_picture, is_forging, is_guarded, least_false, sums_of
from drycells.keys import check_columns_and_primes, is_lot, is_word, stacked
from drycells.pictures import cells_in, is_picture, like_shape, picture_of, shape_of, touched_cells
from drycells.plain import as_tuple, is_above_most, is_part, power
from drycells.reading import check_picture, part_reading, reading


def _check_lost(key, guard, lost):
    """Unfit() if key and guard do not go together, or lost is no LOT of their CELLS."""
    check_columns_and_primes(key, guard)
    if not is_lot(key, as_tuple(lost)):
        raise Unfit()


def _check_task(key, guard, lost, word):
    """Unfit() as _check_lost, and if word is no WORD of key."""
    _check_lost(key, guard, lost)
    if not is_word(key, as_tuple(word)):
        raise Unfit()


def _check_seen(key, guard, picture, lost):
    """Unfit() as _check_lost, and if picture has not as many CELLS as key has columns."""
    _check_lost(key, guard, lost)
    check_picture(picture, key)


def _columns_at(key, lost):
    """The list of the columns of the CELLS of lost."""
    return [key[2][cell] for cell in lost]


def _rows_at(key, lost):
    """The rows of key, as they are at the CELLS of lost alone."""
    return turned_grid(key[0], key[1], _columns_at(key, lost))


def _marks_at(key, lost, word):
    """The ROW of the marks of word at the CELLS of lost."""
    return tuple([row_product(key[0], word, column) for column in _columns_at(key, lost)])


def _unit_words(key):
    """The list of the unit WORDS, in order."""
    return [unit_row(key[1], place) for place in range(key[1])]


def word_read(key, guard, lost, word):
    """Whether word is read in spite of lost; Unfit() if they do not go together, here and below."""
    _check_task(key, guard, lost, word)
    return is_spanned(key[0], len(lost), _rows_at(guard, lost), _marks_at(key, lost, word))


def read_paper(key, guard, lost, word):
    """A READ PAPER; NoPaper() if there is none."""
    _check_task(key, guard, lost, word)
    return multiples_for(key[0], len(lost), _rows_at(guard, lost), _marks_at(key, lost, word))


def is_read_paper(key, guard, lost, word, thing):
    """Whether thing is a READ PAPER."""
    _check_task(key, guard, lost, word)
    if not is_row(key[0], thing) or len(thing) != guard[1]:
        return False
    return _marks_at(guard, lost, thing) == _marks_at(key, lost, word)


def told_product(key, guard, picture, lost, word):
    """The product of word with the READING, read without lost; NoPaper() if it is not read, or no MESSAGE is left."""
    _check_seen(key, guard, picture, lost)
    paper = read_paper(key, guard, lost, word)
    if messages_left(key, guard, picture, lost) == 0:
        raise NoPaper()
    p, known = key[0], _known_cells(key, lost)
    # By the paper the lost CELLS have the same part in both sums, and that by the guard is 0 in all.
    marked = row_product(p, word, part_reading(picture, key, known))
    return (marked - row_product(p, paper, part_reading(picture, guard, known))) % p


def _known_cells(key, lost):
    """The list of the CELLS that are not lost."""
    return [cell for cell in range(len(key[2])) if cell not in lost]


def words_read(key, guard, lost):
    """The stepped GRID that spans just the WORDS that are read, and the ROW of zeros."""
    _check_lost(key, guard, lost)
    p, many, _ = key
    # WORDS are read with papers by which both, added up, mark nothing that is lost.
    ties = relations(p, len(lost), _rows_at(stacked(key, guard), lost))
    return stepped_grid(p, many, [tie[:many] for tie in ties])


def digits_read(key, guard, lost):
    """The set of the places of MESSAGES whose unit WORD is read."""
    _check_lost(key, guard, lost)
    return tuple([place for place, word in enumerate(_unit_words(key)) if word_read(key, guard, lost, word)])


def message_read(key, guard, picture, lost):
    """The tuple of the DIGITS that are read, None for each other one; NoPaper() if no MESSAGE is left."""
    if messages_left(key, guard, picture, lost) == 0:
        raise NoPaper()
    return tuple([_digit_read(key, guard, picture, lost, word) for word in _unit_words(key)])


def _digit_read(key, guard, picture, lost, word):
    """The product of word, None if it is not read."""
    if not word_read(key, guard, lost, word):
        return None
    return told_product(key, guard, picture, lost, word)


def messages_left(key, guard, picture, lost):
    """How many READINGS the guarded PICTURES have that are alike picture but for lost."""
    _check_seen(key, guard, picture, lost)
    p, turns = key[0], _columns_at(guard, lost)
    # What the known CELLS add up to by the guard is spanned exactly if its contrary, which the lost ones owe, is.
    if not is_spanned(p, guard[1], turns, part_reading(picture, guard, _known_cells(key, lost))):
        return 0
    both = _columns_at(stacked(key, guard), lost)
    return power(p, grid_rank(p, key[1] + guard[1], both) - grid_rank(p, guard[1], turns))


def hole_forging(key, guard, lost, word):
    """A FORGING of CELLS of lost that leaves the guard calm and turns word's product; NoPaper() if word is read."""
    _check_task(key, guard, lost, word)
    digits = bar_row(key[0], len(lost), _rows_at(guard, lost), _marks_at(key, lost, word))
    return tuple([(cell, digit) for cell, digit in zip(lost, digits) if digit != 0])


def is_hole_forging(key, guard, lost, word, thing):
    """Whether thing is such a FORGING."""
    _check_task(key, guard, lost, word)
    if not is_forging(key, thing) or not is_part([cell for cell, _ in thing], lost):
        return False
    calm, turned = sums_of(key, guard, thing)
    return not any(calm) and row_product(key[0], word, turned) != 0


def two_alike(key, guard, picture, lost, word):
    """Two guarded PICTURES alike but for lost, with unlike products; NoPaper() if word is read."""
    _check_seen(key, guard, picture, lost)
    forging = hole_forging(key, guard, lost, word)
    top, _, wide = shape_of(picture)
    # All zeros is guarded, whatever the guard.
    calm = picture_of(top, wide, zero_row(cells_in(picture)))
    return (calm, forged_picture(calm, key[0], forging))


def is_two_alike(key, guard, lost, word, thing):
    """Whether thing is such a pair, with as many CELLS as key has columns."""
    _check_task(key, guard, lost, word)
    if not isinstance(thing, tuple) or len(thing) != 2 or not all(is_picture(part) for part in thing):
        return False
    one, other = thing
    if not like_shape(one, other) or cells_in(one) != len(key[2]) or not is_part(touched_cells(one, other), lost):
        return False
    if not is_guarded(one, guard) or not is_guarded(other, guard):
        return False
    return row_product(key[0], word, reading(one, key)) != row_product(key[0], word, reading(other, key))


def may_lose(key, guard, lost):
    """Whether all WORDS are read in spite of lost."""
    return len(words_read(key, guard, lost)) == key[1]


def lot_map(key, guard, lost):
    """A LOT MAP; NoPaper() if there is none."""
    _check_lost(key, guard, lost)
    return tuple([read_paper(key, guard, lost, word) for word in _unit_words(key)])


def is_lot_map(key, guard, lost, thing):
    """Whether thing is a LOT MAP."""
    _check_lost(key, guard, lost)
    if not isinstance(thing, tuple) or len(thing) != key[1]:
        return False
    return all(is_read_paper(key, guard, lost, word, part) for word, part in zip(_unit_words(key), thing))


def may_lose_any(key, guard, many):
    """Whether each LOT of many CELLS may be lost; TooMany(), behind Unfit()."""
    least = least_false(key, guard)
    return least is None or least > many


def most_lost(key, guard):
    """The greatest number of which each LOT may be lost, None if all CELLS may be; TooMany(), behind Unfit()."""
    least = least_false(key, guard)
    return None if least is None else least - 1


def greatest_lots(key, guard):
    """The list, ascending, of the LOTS that may be lost, but with no CELL more; TooMany(), behind Unfit()."""
    check_columns_and_primes(key, guard)
    if is_above_most(key[0], key[1] * guard[1]):
        raise TooMany()
    # A LOT may be lost exactly if some map holds at all of it; each map is made of a paper for each unit WORD.
    lots = [tuple(range(len(key[2])))]
    for word in _unit_words(key):
        papers = all_rows(key[0], guard[1])
        lots = sorted({_held_by(key, guard, lot, word, paper) for lot in lots for paper in papers})
    return [lot for lot in lots if not any(is_part(lot, other) for other in lots if other != lot)]


def _held_by(key, guard, lot, word, paper):
    """The LOT of those of lot at which paper has the mark of word."""
    marks = list(zip(lot, _marks_at(key, lot, word), _marks_at(guard, lot, paper)))
    return tuple([cell for cell, mark, held in marks if mark == held])
