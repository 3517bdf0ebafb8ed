"""GRIDS of ROWS, and what they span."""

from drycells.digits import (
    all_rows, contrary_digit, is_row, led_row, row_less, row_product, row_times, sum_of_multiples, unit_row,
)
from drycells.errors import NoPaper, Unfit
from drycells.plain import many_in, power


def is_grid(p, many, thing):
    """Whether thing is a GRID of p and many."""
    return isinstance(thing, tuple) and all(is_row(p, row) and len(row) == many for row in thing)


def is_stepped(p, many, thing):
    """Whether thing is a stepped GRID of p and many."""
    # A stepped GRID is the only one of its span, so it must be its own.
    return is_grid(p, many, thing) and stepped_grid(p, many, thing) == thing


def _fitting_rows(many, rows):
    """The rows as tuples; Unfit() if one has not many DIGITS."""
    if any(many_in(row) != many for row in rows):
        raise Unfit()
    return tuple([tuple(row) for row in rows])


def _fitting_row(many, row):
    """The row as a tuple; Unfit() if it has not many DIGITS."""
    return _fitting_rows(many, [row])[0]


def stepped_grid(p, many, rows):
    """The stepped GRID that spans what rows span."""
    grid = []
    for row in _fitting_rows(many, rows):
        rest = _cleared(p, grid, row)
        if any(rest):
            fresh = led_row(p, rest)
            grid = [_cleared(p, [fresh], old) for old in grid] + [fresh]
    # Of such ROWS one is greater exactly if its lead stands ahead.
    return tuple(sorted(grid, reverse=True))


def _cleared(p, grid, row):
    """The row with 0 at the lead of each ROW of grid, by multiples of these taken from it."""
    for stepped in grid:
        digit = row[stepped.index(1)]
        if digit != 0:
            row = row_less(p, row, row_times(p, digit, stepped))
    return row


def lead_places(p, many, rows):
    """The set of the leads of the stepped GRID that spans what rows span."""
    return tuple([row.index(1) for row in stepped_grid(p, many, rows)])


def grid_rank(p, many, rows):
    """How many ROWS the stepped GRID has that spans what rows span."""
    return len(stepped_grid(p, many, rows))


def same_span(p, many, one, other):
    """Whether both span the same."""
    return stepped_grid(p, many, one) == stepped_grid(p, many, other)


def is_spanned(p, many, rows, row):
    """Whether row is a sum of multiples of rows."""
    grid = stepped_grid(p, many, rows)
    return not any(_cleared(p, grid, _fitting_row(many, row)))


def multiples_for(p, many, rows, row):
    """DIGITS by which row is the sum of multiples of rows; NoPaper() if there are none."""
    aim = _fitting_row(many, row)
    size = len(rows)
    # One equation for each place: the DIGITS of rows there, and behind them that of row.
    equations = turned_grid(p, many, [*rows, aim])
    found = [0] * size
    for equation in stepped_grid(p, size + 1, equations):
        lead = equation.index(1)
        if lead == size:
            raise NoPaper()
        found[lead] = equation[size]
    return tuple(found)


def is_multiples(p, many, rows, row, thing):
    """Whether thing is a ROW of DIGITS by which row is the sum of multiples of rows."""
    grid = _fitting_rows(many, rows)
    aim = _fitting_row(many, row)
    if not is_row(p, thing) or len(thing) != len(grid):
        return False
    return sum_of_multiples(p, many, grid, thing) == aim


def ways_count(p, many, rows, row):
    """How many ROWS of DIGITS there are by which row is the sum of multiples of rows."""
    if not is_spanned(p, many, rows, row):
        return 0
    return power(p, len(rows) - grid_rank(p, many, rows))


def bar_row(p, many, rows, row):
    """A ROW that has product 0 with each of rows, not with row; NoPaper() if there is none."""
    grid = _fitting_rows(many, rows)
    aim = _fitting_row(many, row)
    for bar in unmarked_rows(p, many, grid):
        if row_product(p, bar, aim) != 0:
            return bar
    raise NoPaper()


def is_bar_row(p, many, rows, row, thing):
    """Whether thing is a ROW that has product 0 with each of rows, not with row."""
    grid = _fitting_rows(many, rows)
    aim = _fitting_row(many, row)
    if not is_row(p, thing) or len(thing) != many:
        return False
    return row_product(p, thing, aim) != 0 and all(row_product(p, thing, own) == 0 for own in grid)


def unmarked_rows(p, many, rows):
    """The stepped GRID that spans all ROWS that have product 0 with each of rows."""
    grid = stepped_grid(p, many, rows)
    leads = lead_places(p, many, grid)
    found = []
    for place in range(many):
        if place not in leads:
            bar = list(unit_row(many, place))
            for lead, row in zip(leads, grid):
                bar[lead] = contrary_digit(p, row[place])
            found.append(tuple(bar))
    return stepped_grid(p, many, found)


def relations(p, many, rows):
    """The stepped GRID that spans all multiples by which rows add up to zeros."""
    return unmarked_rows(p, len(rows), turned_grid(p, many, rows))


def turned_grid(p, many, rows):
    """The tuple of many ROWS: of each place the DIGITS of all rows there."""
    grid = _fitting_rows(many, rows)
    return tuple([tuple([row[place] for row in grid]) for place in range(many)])


def fresh_rows(p, many, rows):
    """The set of the numbers of those of rows that are not spanned by rows ahead of them."""
    # The leads of the turned GRID are the places that those ahead do not tell.
    return lead_places(p, len(rows), turned_grid(p, many, rows))


def span_count(p, many, rows):
    """How many ROWS are spanned."""
    return power(p, grid_rank(p, many, rows))


def spanned_rows(p, many, rows):
    """The list of the spanned ROWS, ascending; TooMany() if they are more than 729."""
    grid = stepped_grid(p, many, rows)
    return sorted([sum_of_multiples(p, many, grid, digits) for digits in all_rows(p, len(grid))])


def common_span(p, many, one, other):
    """The stepped GRID that spans all that both span."""
    # A ROW is in both spans exactly if what is unmarked by either has product 0 with it.
    bars = [*unmarked_rows(p, many, one), *unmarked_rows(p, many, other)]
    return unmarked_rows(p, many, bars)
