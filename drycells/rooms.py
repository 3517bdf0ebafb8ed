"""ROOMS and STEPS: what the open rows have come to, CELL by CELL."""

from itertools import accumulate

from drycells.digits import all_rows, is_row
from drycells.errors import TooMany, Unfit
from drycells.grids import ways_count
from drycells.hiding import check_priced, check_task
from drycells.keys import check_cells
from drycells.plain import as_tuple, is_above_most, is_number, power
from drycells.prices import all_fees, cost_of_rests, rest_prices
from drycells.reading import check_message, reading_of_rests


def _row_ends(key):
    """For each row the pair of the first and the last column with a DIGIT that is not 0; None if it has none."""
    columns = key[2]
    ends = []
    for row in zip(*columns):
        own = [cell for cell, digit in enumerate(row) if digit != 0]
        ends.append((own[0], own[-1]) if own != [] else None)
    return ends


def _widths_of(ends, size):
    """The tuple with, for each place from 0 to size, how many rows are open there."""
    turns = [0] * (size + 1)
    for end in ends:
        if end is not None:
            turns[end[0] + 1] += 1
            turns[end[1] + 1] -= 1
    return tuple(accumulate(turns))


def _check_widths(p, wide):
    """TooMany() if at some place there are more than 729 ROOMS."""
    if is_above_most(p, max(wide)):
        raise TooMany()


def check_rooms(key):
    """TooMany() if at some place there are more than 729 ROOMS."""
    _check_widths(key[0], widths(key))


def _check_place(key, place):
    if not is_number(place) or not 0 <= place <= len(key[2]):
        raise Unfit()


def open_rows(key, place):
    """The set of the rows that are open there; Unfit() if place is not from 0 to n."""
    _check_place(key, place)
    return _open_of(_row_ends(key), place)


def _open_of(ends, place):
    """The set of the rows that are open at place, by their ends."""
    return tuple([row for row, end in enumerate(ends) if end is not None and end[0] < place <= end[1]])


def widths(key):
    """The tuple with, for each place, how many rows are open there."""
    return _widths_of(_row_ends(key), len(key[2]))


def widest(key):
    """The greatest of the widths."""
    return max(widths(key))


def closing_rows(key, cell):
    """The set of the rows that have their last DIGIT that is not 0 in column cell; NoCell(cell)."""
    check_cells(key, (cell,))
    return tuple([row for row, end in enumerate(_row_ends(key)) if end is not None and end[1] == cell])


def idle_rows(key):
    """The set of the rows that have 0 in each column."""
    return tuple([row for row, end in enumerate(_row_ends(key)) if end is None])


def _is_at_rest(ends, message):
    """Whether message has 0 in each idle row: else there are no STEPS at all."""
    return not any([message[row] != 0 for row, end in enumerate(ends) if end is None])


def rooms_at(key, place):
    """The tuple of all ROOMS at place, ascending; Unfit() as open_rows, then TooMany()."""
    _check_place(key, place)
    check_rooms(key)
    return tuple(all_rows(key[0], len(open_rows(key, place))))


def _all_plans(ends, columns, message):
    """The list with, for each CELL, its plan: what becomes there of each row that is open or turned, in order.

    For each of them: the DIGIT of the column; whether the row is open at the CELL's place; and what its sum must be
    behind the STEP if it closes there, None if it stays open.
    """
    plans = [[] for _ in columns]
    for row, end in enumerate(ends):
        if end is not None:
            first, last = end
            for cell in range(first, last + 1):
                aim = message[row] if cell == last else None
                plans[cell].append((columns[cell][row], cell > first, aim))
    return [tuple(plan) for plan in plans]


def _led_room(p, plan, room, rest):
    """The ROOM to which a STEP by rest leads from room; None if there is no STEP."""
    ahead, led = list(room)[::-1], []
    for digit, was_open, aim in plan:
        total = ((ahead.pop() if was_open else 0) + rest * digit) % p
        if aim is None:
            led.append(total)
        elif total != aim:
            return None
    return tuple(led)


def _led_numbers(p, plan, rest):
    """The list of the pairs (ROOM, ROOM behind) of all STEPS by rest, by their numbers among those of their places."""
    pairs = [(0, 0)]
    for digit, was_open, aim in plan:
        turn = rest * digit
        if not was_open:
            total = turn % p
            pairs = [(room, led * p + total if aim is None else led) for room, led in pairs if aim in (None, total)]
        elif aim is None:
            moves = [(own, (own + turn) % p) for own in range(p)]
            pairs = [(room * p + own, led * p + total) for room, led in pairs for own, total in moves]
        else:
            own = (aim - turn) % p
            pairs = [(room * p + own, led) for room, led in pairs]
    return pairs


def _tables_of(p, plans):
    """The list with, for each plan, its table: the list with, for each REST, the pairs of ROOMS that STEPS join."""
    known = {}
    for plan in plans:
        # CELLS often have one plan: then they share the table, which nobody changes.
        if plan not in known:
            known[plan] = [_led_numbers(p, plan, rest) for rest in range(p)]
    return [known[plan] for plan in plans]


def step_tables(key, message):
    """The pair of the list of how many ROOMS there are at each place, and of the list of the tables of all CELLS.

    TooMany() if they are above 729 somewhere. ROOMS are told by their numbers, in ascending order, at their place.
    """
    p, _, columns = key
    ends = _row_ends(key)
    wide = _widths_of(ends, len(columns))
    _check_widths(p, wide)
    powers = [power(p, many) for many in range(max(wide) + 1)]
    sizes = [powers[many] for many in wide]
    if not _is_at_rest(ends, message):
        return (sizes, [[[]] * p for _ in columns])
    return (sizes, _tables_of(p, _all_plans(ends, columns, message)))


def reading_tables(key):
    """The tables of all CELLS as if each row were open at each place: then the ROOMS are the sums so far of all."""
    return _tables_of(key[0], [tuple([(digit, True, None) for digit in column]) for column in key[2]])


def priced_steps(picture, prices, key, message):
    """The pair of the numbers of ROOMS at each place, and of the list of all STEPS; Unfit(), then TooMany().

    For each CELL there is a list of the triples (REST, price, pairs of ROOMS as in a table), by RESTS.
    """
    check_task(picture, prices, key, message)
    sizes, tables = step_tables(key, message)
    return (sizes, with_fees(all_fees(picture, prices, key[0]), tables))


def with_fees(fees, tables):
    """The list with, for each CELL, the triples (REST, price, pairs of ROOMS) of the RESTS that it may have."""
    return [[(rest, price, table[rest]) for rest, price in own] for own, table in zip(fees, tables)]


def room_behind(key, message, cell, room, rest):
    """The ROOM behind the STEP by rest from room, None without a STEP; Unfit(), then TooMany(), then NoCell(cell)."""
    check_message(key, message)
    check_rooms(key)
    check_cells(key, (cell,))
    ends = _row_ends(key)
    if not _is_at_rest(ends, message):
        return None
    return _led_room(key[0], _all_plans(ends, key[2], message)[cell], room, rest)


def step_price(picture, prices, key, cell, rest):
    """The price of a STEP by rest, None if cell is barred and rest not its own; Unfit(), then NoCell(cell)."""
    check_priced(picture, prices, key)
    return rest_prices(picture, prices, cell, key[0])[rest]


def steps_at(picture, prices, key, message, cell):
    """The list of (room, rest, room behind, price) of all STEPS from place cell; Unfit(), TooMany(), NoCell(cell)."""
    check_task(picture, prices, key, message)
    check_rooms(key)
    check_cells(key, (cell,))
    ends = _row_ends(key)
    if not _is_at_rest(ends, message):
        return []
    p, plan = key[0], _all_plans(ends, key[2], message)[cell]
    fees = list(enumerate(rest_prices(picture, prices, cell, p)))
    steps = []
    for room in rooms_at(key, cell):
        led = [_led_room(p, plan, room, rest) for rest, _ in fees]
        steps += [(room, rest, led[rest], price) for rest, price in fees if None not in (led[rest], price)]
    return steps


def is_way(key, message, thing):
    """Whether thing is a way; Unfit() if message is none of key, then TooMany()."""
    check_message(key, message)
    check_rooms(key)
    if not is_row(key[0], thing) or len(thing) != len(key[2]):
        return False
    return reading_of_rests(key, thing) == tuple(message)


def rooms_along(key, message, way):
    """The tuple of the n + 1 ROOMS through which way leads; Unfit(), TooMany() as is_way, Unfit() if it is none."""
    if not is_way(key, message, as_tuple(way)):
        raise Unfit()
    along = [()]
    for plan, rest in zip(_all_plans(_row_ends(key), key[2], message), way):
        along.append(_led_room(key[0], plan, along[-1], rest))
    return tuple(along)


def ways_on(key, message, place, room):
    """How many ROWS of RESTS lead from room, one at place, to place n; Unfit(), TooMany() as is_way."""
    check_message(key, message)
    check_rooms(key)
    p, _, columns = key
    ends = _row_ends(key)
    if place < len(columns) and not _is_at_rest(ends, message):
        return 0
    sums = dict(zip(_open_of(ends, place), room))
    # What is told of a row is what it lacks, of all rows that some column from place on turns.
    ahead = [row for row, end in enumerate(ends) if end is not None and end[1] >= place]
    aim = [(message[row] - sums.get(row, 0)) % p for row in ahead]
    turns = [[column[row] for row in ahead] for column in columns[place:]]
    return ways_count(p, len(ahead), turns, aim)


def how_many_ways(key, message):
    """How many ways there are; Unfit(), TooMany() as is_way."""
    check_message(key, message)
    check_rooms(key)
    return ways_count(key[0], key[1], key[2], message)


def way_price(picture, prices, key, way):
    """The price of the STEPS of way, None if it does not keep prices; Unfit() if they do not fit, then TooMany()."""
    check_priced(picture, prices, key)
    check_rooms(key)
    return cost_of_rests(picture, prices, key[0], way)
