"""PRICES: which CELLS are barred, and what it costs to touch the others."""

from drycells.digits import is_row
from drycells.errors import Unfit
from drycells.pictures import (
    cells_in, grey_at, greys, is_laid_out, neighbours, picture_of, rests, shape_of, touched_cells,
)
from drycells.plain import as_tuple, is_number, many_in


def is_prices(picture, thing):
    """Whether thing is PRICES for picture."""
    return isinstance(thing, tuple) and len(thing) == cells_in(picture) and all(is_price(price) for price in thing)


def is_price(thing):
    """Whether thing is what PRICES have for a CELL: None, or a weight."""
    return thing is None or is_number(thing) and thing >= 0


def check_prices(picture, prices):
    """Unfit() if prices are not as many as the CELLS of picture."""
    if not is_laid_out(picture) or many_in(prices) != cells_in(picture):
        raise Unfit()


def even_prices(picture, weight):
    """PRICES in which all CELLS are free, with this weight."""
    return (weight,) * cells_in(picture)


def roughness(picture, cell):
    """The greatest difference of the GREY from that of a neighbour, 0 without one; NoCell(cell)."""
    own = grey_at(picture, cell)
    return max([abs(own - grey_at(picture, beside)) for beside in neighbours(picture, cell)], default=0)


def rough_prices(picture, most):
    """PRICES in which CELLS without roughness are barred, and the rougher ones weigh less."""
    return tuple([_rough_price(roughness(picture, cell), most) for cell in range(cells_in(picture))])


def _rough_price(rough, most):
    if rough == 0:
        return None
    return max(most - rough, 1)


def barring(prices, lot):
    """PRICES in which the CELLS of lot are barred, too."""
    return tuple([None if cell in lot else price for cell, price in enumerate(prices)])


def weighing(prices, lot, weight):
    """PRICES in which the CELLS of lot are free, with this weight."""
    return tuple([weight if cell in lot else price for cell, price in enumerate(prices)])


def free_cells(prices):
    """The set of the CELLS that are free."""
    return tuple([cell for cell, price in enumerate(prices) if price is not None])


def barred_cells(prices):
    """The set of the CELLS that are barred."""
    return tuple([cell for cell, price in enumerate(prices) if price is None])


def both_prices(one, other):
    """Barred what one of both bars, else both weights added; Unfit() if they are not as many."""
    if many_in(one) is None or many_in(one) != many_in(other):
        raise Unfit()
    return tuple([_both_prices_of(left, right) for left, right in zip(one, other)])


def _both_prices_of(left, right):
    if left is None or right is None:
        return None
    return left + right


def barred_touched(one, other, prices):
    """The set of the barred CELLS that are touched; Unfit() if prices do not fit, or shapes are unlike."""
    check_prices(one, prices)
    return tuple([cell for cell in touched_cells(one, other) if prices[cell] is None])


def cost(one, other, prices):
    """The COST from one to other; Unfit() as barred_touched, and if a barred CELL is touched."""
    if barred_touched(one, other, prices):
        raise Unfit()
    old, new = greys(one), greys(other)
    return sum([prices[cell] * abs(old[cell] - new[cell]) for cell in free_cells(prices)])


def within(one, other, prices, budget):
    """Whether no barred CELL is touched, and the COST is at most budget; Unfit() as barred_touched."""
    return not barred_touched(one, other, prices) and cost(one, other, prices) <= budget


def greys_for(picture, p, rest):
    """The set of the GREYS of picture, from 0 to top, with this REST."""
    return tuple([grey for grey in range(picture[0] + 1) if grey % p == rest])


def cheapest_grey(picture, cell, p, rest):
    """The CHEAPEST GREY of cell for rest; NoCell(cell)."""
    return _nearest(picture[0], grey_at(picture, cell), p, rest)


def _nearest(top, own, p, rest):
    """The GREY to top with this REST that differs least from own, of two such the lesser one."""
    down = (own - rest) % p
    low, high = own - down, own - down + p
    if low < 0 or high <= top and high - own < down:
        return high
    return low


def rest_prices(picture, prices, cell, p):
    """The COST of the CHEAPEST GREY for each REST, None if cell may not have it; Unfit(), then NoCell(cell)."""
    check_prices(picture, prices)
    fees = _fees_of(picture[0], grey_at(picture, cell), prices[cell], p)
    told = dict(fees)
    return tuple([told.get(rest) for rest in range(p)])


def _fees_of(top, own, price, p):
    """The list of the pairs (REST, COST of its CHEAPEST GREY) that a CELL with the GREY own may have."""
    if price is None:
        return [(own % p, 0)]
    return [(rest, price * abs(own - _nearest(top, own, p, rest))) for rest in range(p)]


def all_fees(picture, prices, p):
    """The list with, for each CELL, the list of the pairs (REST, COST of its CHEAPEST GREY) that it may have."""
    known, found = {}, []
    for own, price in zip(greys(picture), prices):
        if (own, price) not in known:
            known[(own, price)] = _fees_of(picture[0], own, price, p)
        found.append(known[(own, price)])
    return found


def with_rests(picture, p, digits):
    """The PICTURE with the CHEAPEST GREY of each CELL for its DIGIT; Unfit() if digits do not fit."""
    _check_digits(picture, p, digits)
    top, _, wide = shape_of(picture)
    return picture_of(top, wide, [_nearest(top, own, p, digit) for own, digit in zip(greys(picture), digits)])


def _check_digits(picture, p, digits):
    if many_in(digits) != cells_in(picture) or not is_row(p, as_tuple(digits)):
        raise Unfit()


def cost_of_rests(picture, prices, p, digits):
    """The COST of with_rests; None if a barred CELL has another REST than its DIGIT; Unfit() if they do not fit."""
    check_prices(picture, prices)
    _check_digits(picture, p, digits)
    own = rests(picture, p)
    if any(own[cell] != digits[cell] for cell in barred_cells(prices)):
        return None
    return cost(picture, with_rests(picture, p, digits), prices)
