"""PICTURES: their CELLS, GREYS and RESTS, turned, cut out and laid over each other."""

from drycells.errors import NoCell, Unfit
from drycells.plain import is_number, many_in

LEAST_TOP = 4
GREATEST_TOP = 255


def is_picture(thing):
    """Whether thing is a PICTURE."""
    if not isinstance(thing, tuple) or len(thing) != 2:
        return False
    top, rows = thing
    if not is_number(top) or not LEAST_TOP <= top <= GREATEST_TOP or not _are_even_rows(rows):
        return False
    return all(is_grey(top, grey) for row in rows for grey in row)


def _are_even_rows(thing):
    """Whether thing is a tuple, not (), of tuples of one length, not ()."""
    if not isinstance(thing, tuple) or not all(isinstance(row, tuple) for row in thing):
        return False
    if thing == () or thing[0] == ():
        return False
    return all(len(row) == len(thing[0]) for row in thing)


def is_grey(top, thing):
    """Whether thing is a GREY of PICTURES with this top."""
    return is_number(thing) and 0 <= thing <= top


def is_laid_out(picture):
    """Whether picture is at least a pair of something and rows: what has CELLS, as far as can be told at once."""
    if many_in(picture) != 2 or many_in(picture[1]) in (None, 0):
        return False
    return all(many_in(row) is not None for row in picture[1])


def check_like(one, other):
    """Unfit() if one and other are not like in shape."""
    if not is_laid_out(one) or not is_laid_out(other) or not like_shape(one, other):
        raise Unfit()


def shape_of(picture):
    """The triple (top, how many rows, how long these are)."""
    top, rows = picture
    return (top, len(rows), len(rows[0]))


def like_shape(one, other):
    """Whether both are like in shape."""
    return shape_of(one) == shape_of(other)


def cells_in(picture):
    """How many CELLS picture has."""
    _, high, wide = shape_of(picture)
    return high * wide


def greys(picture):
    """The tuple of the GREYS, CELL by CELL."""
    return tuple([grey for row in picture[1] for grey in row])


def picture_of(top, wide, tones):
    """The PICTURE with rows so long of which greys tells tones; Unfit() if there is none."""
    if not LEAST_TOP <= top <= GREATEST_TOP or wide < 1:
        raise Unfit()
    if many_in(tones) in (None, 0) or len(tones) % wide != 0 or not all(is_grey(top, tone) for tone in tones):
        raise Unfit()
    return (top, tuple([tuple(tones[cell:cell + wide]) for cell in range(0, len(tones), wide)]))


def _check_cell(picture, cell):
    if not is_number(cell) or not 0 <= cell < cells_in(picture):
        raise NoCell(cell)


def grey_at(picture, cell):
    """The GREY of cell; NoCell(cell) if there is none."""
    _check_cell(picture, cell)
    return greys(picture)[cell]


def with_grey(picture, cell, grey):
    """The PICTURE with this GREY at cell; NoCell(cell), then Unfit() if grey is not from 0 to top."""
    _check_cell(picture, cell)
    top, _, wide = shape_of(picture)
    tones = list(greys(picture))
    tones[cell] = grey
    return picture_of(top, wide, tones)


def place_of(picture, cell):
    """The pair (row, column) of cell; NoCell(cell) if there is none."""
    _check_cell(picture, cell)
    wide = shape_of(picture)[2]
    return (cell // wide, cell % wide)


def _has_place(picture, row, column):
    _, high, wide = shape_of(picture)
    return 0 <= row < high and 0 <= column < wide


def cell_at(picture, row, column):
    """The CELL at this place; Unfit() if there is none."""
    if not _has_place(picture, row, column):
        raise Unfit()
    return row * shape_of(picture)[2] + column


def neighbours(picture, cell):
    """The set of the CELLS above cell, to its left, to its right, below it; NoCell(cell) if there is none."""
    row, column = place_of(picture, cell)
    around = ((row - 1, column), (row, column - 1), (row, column + 1), (row + 1, column))
    return tuple([cell_at(picture, high, wide) for high, wide in around if _has_place(picture, high, wide)])


def edge_cells(picture):
    """The set of the CELLS of the first and last row and column."""
    return tuple([cell for cell in range(cells_in(picture)) if _is_at_edge(picture, cell)])


def _is_at_edge(picture, cell):
    _, high, wide = shape_of(picture)
    row, column = place_of(picture, cell)
    return row in (0, high - 1) or column in (0, wide - 1)


def touched_cells(one, other):
    """The set of the CELLS touched from one to other; Unfit() if they are not like in shape."""
    check_like(one, other)
    pairs = list(zip(greys(one), greys(other)))
    return tuple([cell for cell, (old, new) in enumerate(pairs) if old != new])


def rests(picture, p):
    """The ROW of the RESTS, CELL by CELL."""
    return tuple([grey % p for grey in greys(picture)])


def cells_grey(picture, low, high):
    """The set of the CELLS with GREYS from low to high."""
    return tuple([cell for cell, grey in enumerate(greys(picture)) if low <= grey <= high])


def _laid_out(picture, wide, cells):
    """The PICTURE with rows so long, of the GREYS that picture has at these CELLS."""
    tones = greys(picture)
    return picture_of(picture[0], wide, [tones[cell] for cell in cells])


def turned(picture):
    """The PICTURE turned by a quarter, to the right."""
    return _laid_out(picture, shape_of(picture)[1], cells_turned(picture))


def mirrored(picture):
    """The PICTURE with left and right exchanged."""
    return _laid_out(picture, shape_of(picture)[2], cells_mirrored(picture))


def cells_turned(picture):
    """The tuple with, for each CELL of what is turned, the CELL of picture that came there."""
    _, high, wide = shape_of(picture)
    return tuple([row * wide + column for column in range(wide) for row in range(high - 1, -1, -1)])


def cells_mirrored(picture):
    """The tuple with, for each CELL of what is mirrored, the CELL of picture that came there."""
    _, high, wide = shape_of(picture)
    return tuple([row * wide + column for row in range(high) for column in range(wide - 1, -1, -1)])


def cut_out(picture, row, column, high, wide):
    """The PICTURE of the high rows from row on, of each the wide CELLS from column on; Unfit() as cells_cut."""
    return _laid_out(picture, wide, cells_cut(picture, row, column, high, wide))


def cells_cut(picture, row, column, high, wide):
    """The tuple of the CELLS cut out; Unfit() if there are none, or not all of them are in picture."""
    if high < 1 or wide < 1 or not _has_place(picture, row + high - 1, column + wide - 1):
        raise Unfit()
    first = cell_at(picture, row, column)
    length = shape_of(picture)[2]
    return tuple([first + down * length + right for down in range(high) for right in range(wide)])


def put_over(picture, part, row, column):
    """The PICTURE with part laid over it; Unfit() if the tops are unlike, or part does not lie within it."""
    top, high, wide = shape_of(part)
    if top != picture[0]:
        raise Unfit()
    tones = list(greys(picture))
    for cell, grey in zip(cells_cut(picture, row, column, high, wide), greys(part)):
        tones[cell] = grey
    return picture_of(top, shape_of(picture)[2], tones)
