"""ROOMS and STEPS: what the open rows have come to, CELL by CELL."""

from drycells.digits import all_rows, is_row, marked_places
from drycells.errors import TooMany, Unfit
from drycells.grids import ways_count
from drycells.hiding import check_priced, check_task
from drycells.keys import check_cells, key_rows
from drycells.plain import as_tuple, is_above_most, is_number
from drycells.prices import cost_of_rests, rest_prices
from drycells.reading import check_message, reading_of_rests


def check_rooms(key):
    """TooMany() if at some place there are more than 729 ROOMS."""
    if is_above_most(key[0], widest(key)):
        raise TooMany()


def _check_place(key, place):
    if not is_number(place) or not 0 <= place <= len(key[2]):
        raise Unfit()


def _row_places(key):
    """For each row the set of the columns in which it has a DIGIT that is not 0."""
    return [marked_places(row) for row in key_rows(key)]


def _open_of(row_places, place):
    """The set of the rows that are open at place, by their places."""
    return tuple([row for row, own in enumerate(row_places) if own != () and own[0] < place <= own[-1]])


def open_rows(key, place):
    """The set of the rows that are open at place; Unfit() if it is not from 0 to n."""
    _check_place(key, place)
    return _open_of(_row_places(key), place)


def widths(key):
    """The tuple with, for each place, how many rows are open there."""
    row_places = _row_places(key)
    return tuple([len(_open_of(row_places, place)) for place in range(len(key[2]) + 1)])


def widest(key):
    """The greatest of the widths."""
    return max(widths(key))


def closing_rows(key, cell):
    """The set of the rows that have their last DIGIT that is not 0 in column cell; NoCell(cell)."""
    check_cells(key, (cell,))
    return tuple([row for row, own in enumerate(_row_places(key)) if own != () and own[-1] == cell])


def idle_rows(key):
    """The set of the rows that have 0 in each column."""
    return tuple([row for row, own in enumerate(_row_places(key)) if own == ()])


def _is_at_rest(key, message):
    """Whether message has 0 in each idle row: else there are no STEPS at all."""
    return not any(message[row] for row in idle_rows(key))


def rooms_at(key, place):
    """The tuple of all ROOMS at place, ascending; Unfit() as open_rows, then TooMany()."""
    _check_place(key, place)
    check_rooms(key)
    return tuple(all_rows(key[0], len(open_rows(key, place))))


def _plan(key, message, cell):
    """The pair of what is added up for the rows open behind cell, and for those that close there.

    For each of them: where a ROOM at cell, with one 0 more behind it, has the sum so far; the DIGIT of the column;
    and what must come of it, None if it stays open.
    """
    here, column = open_rows(key, cell), key[2][cell]
    kept = [(_place_in(here, row), column[row], None) for row in open_rows(key, cell + 1)]
    shut = [(_place_in(here, row), column[row], message[row]) for row in closing_rows(key, cell)]
    return (kept, shut)


def _place_in(here, row):
    """The place of row among those that are open; the one behind them all if it is not."""
    return here.index(row) if row in here else len(here)


def _led_room(p, plan, room, rest):
    """The ROOM to which a STEP by rest leads from room; None if there is no STEP."""
    kept, shut = plan
    sums = tuple(room) + (0,)
    for at, digit, aim in shut:
        if (sums[at] + rest * digit) % p != aim:
            return None
    return tuple([(sums[at] + rest * digit) % p for at, digit, _ in kept])


def room_behind(key, message, cell, room, rest):
    """The ROOM behind the STEP by rest from room, None without a STEP; Unfit(), then TooMany(), then NoCell(cell)."""
    check_message(key, message)
    check_rooms(key)
    check_cells(key, (cell,))
    if not _is_at_rest(key, message):
        return None
    return _led_room(key[0], _plan(key, message, cell), room, rest)


def step_price(picture, prices, key, cell, rest):
    """The price of a STEP by rest, None if cell is barred and rest not its own; Unfit(), then NoCell(cell)."""
    check_priced(picture, prices, key)
    return rest_prices(picture, prices, cell, key[0])[rest]


def steps_at(picture, prices, key, message, cell):
    """The list of (room, rest, room behind, price) of all STEPS from place cell; Unfit(), TooMany(), NoCell(cell)."""
    check_task(picture, prices, key, message)
    check_rooms(key)
    check_cells(key, (cell,))
    if not _is_at_rest(key, message):
        return []
    p, plan = key[0], _plan(key, message, cell)
    fees = list(rest_prices(picture, prices, cell, p))
    steps = []
    for room in rooms_at(key, cell):
        for rest, price in enumerate(fees):
            led = None if price is None else _led_room(p, plan, room, rest)
            if led is not None:
                steps.append((room, rest, led, price))
    return steps


def is_way(key, message, thing):
    """Whether thing is a way; Unfit() if message is none of key, then TooMany()."""
    check_message(key, message)
    check_rooms(key)
    if not is_row(key[0], thing) or len(thing) != len(key[2]):
        return False
    return reading_of_rests(key, thing) == tuple(message)


def rooms_along(key, message, way):
    """The tuple of the n + 1 ROOMS through which way leads; Unfit(), TooMany() as is_way, Unfit() if it is none."""
    if not is_way(key, message, as_tuple(way)):
        raise Unfit()
    along = [()]
    for cell, rest in enumerate(way):
        along.append(_led_room(key[0], _plan(key, message, cell), along[-1], rest))
    return tuple(along)


def ways_on(key, message, place, room):
    """How many ROWS of RESTS lead from room, one at place, to place n; Unfit(), TooMany() as is_way."""
    check_message(key, message)
    check_rooms(key)
    p, _, columns = key
    if place < len(columns) and not _is_at_rest(key, message):
        return 0
    row_places, here = _row_places(key), open_rows(key, place)
    sums = tuple(room) + (0,)
    # What is told of a row is what it lacks, of all rows that some column from place on turns.
    ahead = [row for row, own in enumerate(row_places) if own != () and own[-1] >= place]
    aim = [(message[row] - sums[_place_in(here, row)]) % p for row in ahead]
    turns = [[column[row] for row in ahead] for column in columns[place:]]
    return ways_count(p, len(ahead), turns, aim)


def how_many_ways(key, message):
    """How many ways there are; Unfit(), TooMany() as is_way."""
    check_message(key, message)
    check_rooms(key)
    return ways_count(key[0], key[1], key[2], message)


def way_price(picture, prices, key, way):
    """The price of the STEPS of way, None if it does not keep prices; Unfit() if they do not fit, then TooMany()."""
    check_priced(picture, prices, key)
    check_rooms(key)
    return cost_of_rests(picture, prices, key[0], way)
