"""PASTS: what a PICTURE may have been before a few of its free CELLS were touched, so that it read as a MESSAGE."""

from math import gcd

from drycells.cheapest import costs_on, costs_to
from drycells.digits import all_rows
from drycells.errors import NoPaper, TooMany, Unfit
from drycells.hiding import check_priced, check_task, is_hiding
from drycells.keys import check_cells, check_small
from drycells.pictures import greys, picture_of, shape_of, touched_cells
from drycells.plain import in_tuples, is_number, power
from drycells.prices import free_cells
from drycells.rooms import check_rooms, reading_tables, step_tables

MOST_PASTS = 1000


def is_past(picture, prices, key, message, most, thing):
    """Whether thing is a PAST; Unfit() if the others do not go together, then TooMany(), here and below."""
    check_task(picture, prices, key, message)
    check_rooms(key)
    return is_hiding(picture, prices, key, message, thing) and len(touched_cells(picture, thing)) <= most


def _grey_ways(picture, prices, p):
    """For each CELL the list of the triples (REST, 1 if it is the own one, how many other GREYS of it it may have)."""
    top = picture[0]
    found = []
    for own, price in zip(greys(picture), prices):
        # So many GREYS from 0 to top have each REST; the own one is no touch.
        ways = [(rest, int(rest == own % p), (top - rest) // p + 1 - int(rest == own % p)) for rest in range(p)]
        found.append(ways if price is not None else [(own % p, 1, 0)])
    return found


def _with_ways(ways, tables):
    """For each CELL the list of the triples (stay, turn, pairs of ROOMS) of the RESTS that it may have."""
    return [[(stay, turn, table[rest]) for rest, stay, turn in own] for own, table in zip(ways, tables)]


def _planned(picture, prices, key, message):
    """The pair of the numbers of ROOMS and of the list of such triples for each CELL; Unfit(), then TooMany()."""
    check_task(picture, prices, key, message)
    sizes, tables = step_tables(key, message)
    return (sizes, _with_ways(_grey_ways(picture, prices, key[0]), tables))


def _limit(prices, most):
    """The greatest number of touched CELLS that is to be told: no more than are free can be."""
    return min(most, len(free_cells(prices)))


def _with_more(old, counts, stay, turn):
    """The counts old, None for none, and what comes of counts by as many ways without a touch, and with one."""
    more = [stay * same + turn * less for same, less in zip(counts, [0] + counts)]
    return more if old is None else [one + other for one, other in zip(old, more)]


def _counts_behind(there, counts, size):
    """For each of size ROOMS the counts, by touched CELLS, that come there of counts by the STEPS; None for none."""
    found = [None] * size
    for stay, turn, pairs in there:
        for room, led in pairs:
            if counts[room] is not None:
                found[led] = _with_more(found[led], counts[room], stay, turn)
    return found


def _counts_to(sizes, steps, limit):
    """For each place, for each ROOM there how many beginnings touch just 0, 1, .. to limit CELLS; None for none."""
    found = [[[1] + [0] * limit]]
    for there, size in zip(steps, sizes[1:]):
        found.append(_counts_behind(there, found[-1], size))
    return found


def _counts_on(sizes, steps, limit):
    """For each place, for each ROOM there how many ways on touch just 0, 1, .. to limit CELLS; None for none."""
    found = [[[1] + [0] * limit]]
    for there, size in zip(steps[::-1], sizes[-2::-1]):
        turned = [(stay, turn, [(led, room) for room, led in pairs]) for stay, turn, pairs in there]
        found.append(_counts_behind(turned, found[-1], size))
    return found[::-1]


def _sum_to(counts, most):
    """How many touch at most most CELLS."""
    if counts is None or most < 0:
        return 0
    return sum(counts[:most + 1])


def past_counts(picture, prices, key, message, most):
    """The tuple with, for each k from 0 to most, how many PASTS are just k touched CELLS away."""
    sizes, steps = _planned(picture, prices, key, message)
    limit = _limit(prices, most)
    counts = _counts_to(sizes, steps, limit)[-1][0]
    if counts is None:
        return (0,) * (most + 1)
    return tuple(counts + [0] * (most - limit))


def how_many_pasts(picture, prices, key, message, most):
    """How many PASTS there are."""
    return sum(past_counts(picture, prices, key, message, most))


def _touch_steps(steps):
    """The STEPS with 1 as the price of a touch that the REST asks for."""
    return [[(0, 1 - stay, pairs) for stay, _, pairs in there] for there in steps]


def fewest_touched(picture, prices, key, message):
    """The least number of touched CELLS by which some PAST is away; None if there is none."""
    sizes, steps = _planned(picture, prices, key, message)
    above = len(steps) + 1
    least = costs_to(sizes, _touch_steps(steps), above)[-1][0]
    return None if least == above else least


def _grey_steps(picture, prices, key, message, most):
    """The pair of how many PASTS there are, and of a list that has for each CELL what _choices asks for."""
    check_task(picture, prices, key, message)
    sizes, tables = step_tables(key, message)
    limit, steps = _limit(prices, most), _with_ways(_grey_ways(picture, prices, key[0]), tables)
    onward = _counts_on(sizes, steps, limit)
    led = [[dict(pairs) for pairs in table] for table in tables]
    found = [
        (own, price is not None, led[cell], onward[cell + 1])
        for cell, (own, price) in enumerate(zip(greys(picture), prices))
    ]
    return (_sum_to(onward[0][0], limit), found)


def _choices(step, top, room, left):
    """The list of (GREY, ways on, ROOM behind, touches left) of the GREYS to top with ways on from room, ascending.

    step has the own GREY, whether the CELL is free, for each REST the ROOMS behind, and the counts of their ways on.
    """
    own, is_free, led, onward = step
    found = []
    for grey in range(top + 1):
        behind = led[grey % len(led)].get(room)
        still = left - int(grey != own)
        if behind is not None and (is_free or grey == own):
            ways = _sum_to(onward[behind], still)
            if ways > 0:
                found.append((grey, ways, behind, still))
    return found


def past_at(picture, prices, key, message, most, number):
    """The PAST that just number PASTS are ahead of; Unfit(), behind TooMany(), if there is none."""
    total, steps = _grey_steps(picture, prices, key, message, most)
    if not is_number(number) or not 0 <= number < total:
        raise Unfit()
    top, _, wide = shape_of(picture)
    tones, room, left = [], 0, _limit(prices, most)
    for step in steps:
        grey, ahead, room, left = _choice_at(_choices(step, top, room, left), number)
        number = number - ahead
        tones.append(grey)
    return picture_of(top, wide, tones)


def _choice_at(choices, number):
    """Of choices that with number ways ahead of it: (GREY, how many ways lie ahead of its own, ROOM, touches left)."""
    ahead = 0
    for grey, ways, behind, still in choices:
        if number < ahead + ways:
            return (grey, ahead, behind, still)
        ahead += ways
    raise Unfit()


def past_number(picture, prices, key, message, most, past):
    """How many PASTS are ahead of past; Unfit(), behind TooMany(), if it is no PAST."""
    own = in_tuples(past)
    if not is_past(picture, prices, key, message, most, own):
        raise Unfit()
    number, room, left = 0, 0, _limit(prices, most)
    _, steps = _grey_steps(picture, prices, key, message, most)
    for step, tone in zip(steps, greys(own)):
        choices = _choices(step, tone, room, left)
        number += sum([ways for _, ways, _, _ in choices[:-1]])
        _, _, room, left = choices[-1]
    return number


def all_pasts(picture, prices, key, message, most):
    """The list of the PASTS, in order; TooMany(), too, if they are more than 1,000."""
    total, steps = _grey_steps(picture, prices, key, message, most)
    if total > MOST_PASTS:
        raise TooMany()
    top, _, wide = shape_of(picture)
    beginnings = [((), 0, _limit(prices, most))]
    for step in steps:
        beginnings = _longer(beginnings, step, top)
    return [picture_of(top, wide, tones) for tones, _, _ in beginnings]


def _longer(beginnings, step, top):
    """The beginnings (GREYS, ROOM, touches left) with one more CELL, of those with ways on."""
    known, longer = {}, []
    for tones, room, left in beginnings:
        if (room, left) not in known:
            known[(room, left)] = _choices(step, top, room, left)
        longer += [(tones + (grey,), behind, still) for grey, _, behind, still in known[(room, left)]]
    return longer


def _cells_by_touch(picture, prices, key, message, most):
    """The pair of the list of the CELLS that some PAST has alike, and of those that some has otherwise."""
    sizes, steps = _planned(picture, prices, key, message)
    above, priced = len(steps) + 1, _touch_steps(steps)
    to, onward = costs_to(sizes, priced, above), costs_on(sizes, priced, above)
    kept, turned = [], []
    for cell, there in enumerate(steps):
        ahead, behind = to[cell], onward[cell + 1]
        least = [
            (stay, turn, min([ahead[room] + behind[led] for room, led in pairs], default=above))
            for stay, turn, pairs in there
        ]
        # What no way reaches has above, or more: it is no PAST, whatever most.
        if any([stay > 0 and touches <= min(most, above - 1) for stay, _, touches in least]):
            kept.append(cell)
        if any([turn > 0 and touches < min(most, above) for _, turn, touches in least]):
            turned.append(cell)
    return (kept, turned)


def surely_touched(picture, prices, key, message, most):
    """The set of the CELLS that all PASTS have otherwise than picture; () if there is no PAST."""
    kept, turned = _cells_by_touch(picture, prices, key, message, most)
    return tuple([cell for cell in turned if cell not in kept])


def surely_kept(picture, prices, key, message, most):
    """The set of the CELLS that no PAST has otherwise than picture; () if there is no PAST."""
    kept, turned = _cells_by_touch(picture, prices, key, message, most)
    return tuple([cell for cell in kept if cell not in turned])


def touched_part(picture, prices, key, message, most, cell):
    """In which part of all PASTS, a FRACTION, cell is touched; NoCell(cell), behind TooMany(); then NoPaper()."""
    counts = grey_counts(picture, prices, key, message, most, cell)
    total = sum(counts)
    if total == 0:
        raise NoPaper()
    touched = total - counts[greys(picture)[cell]]
    shared = gcd(touched, total)
    return (touched // shared, total // shared)


def grey_counts(picture, prices, key, message, most, cell):
    """The tuple with, for each GREY, how many PASTS have it at cell; NoCell(cell), behind TooMany()."""
    check_task(picture, prices, key, message)
    sizes, tables = step_tables(key, message)
    check_cells(key, (cell,))
    steps, limit = _with_ways(_grey_ways(picture, prices, key[0]), tables), _limit(prices, most)
    to = _counts_to(sizes[:cell + 1], steps[:cell], limit)[-1]
    onward = _counts_on(sizes[cell + 1:], steps[cell + 1:], limit)[0]
    own, is_free = greys(picture)[cell], prices[cell] is not None
    # By RESTS, as many as there are if the CELL itself is touched, and if it is not.
    touched = [_joined(to, onward, pairs, limit - 1) if is_free else 0 for pairs in tables[cell]]
    alike = _joined(to, onward, tables[cell][own % key[0]], limit)
    return tuple([alike if grey == own else touched[grey % key[0]] for grey in range(picture[0] + 1)])


def _joined(to, onward, pairs, most):
    """How many ways lead through pairs of ROOMS with at most most touched CELLS ahead of them and behind them."""
    total = 0
    for room, led in pairs:
        if to[room] is not None:
            total += sum([count * _sum_to(onward[led], most - used) for used, count in enumerate(to[room])])
    return total


def message_counts(picture, prices, key, most):
    """The list, ascending, of the pairs of a MESSAGE that has a PAST and how many it has; Unfit(), then TooMany()."""
    check_priced(picture, prices, key)
    check_small(key)
    p, many, _ = key
    size = power(p, many)
    counts = [[1] + [0] * _limit(prices, most)] + [None] * (size - 1)
    for there in _with_ways(_grey_ways(picture, prices, p), reading_tables(key)):
        counts = _counts_behind(there, counts, size)
    totals = [0 if own is None else sum(own) for own in counts]
    return [(message, total) for message, total in zip(all_rows(p, many), totals) if total > 0]


def likeliest(picture, prices, key, most):
    """The MESSAGE with the most PASTS, the least of several; Unfit(), then TooMany() likewise."""
    counts = message_counts(picture, prices, key, most)
    greatest = max([total for _, total in counts])
    return [message for message, total in counts if total == greatest][0]
