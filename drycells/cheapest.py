"""The cheapest PICTURE that hides a MESSAGE, with a SLOPE that shows that none is cheaper."""

from drycells.errors import NoPaper
from drycells.hiding import check_task, is_bar, is_hiding, word_against
from drycells.keys import check_cells
from drycells.pictures import rests
from drycells.plain import is_number, power
from drycells.prices import cost, weighing, with_rests
from drycells.rooms import check_rooms, rooms_at, steps_at, widths


def _all_steps(picture, prices, key, message):
    """The list with, for each CELL, the STEPS from its place; Unfit() if they do not fit, then TooMany()."""
    return [steps_at(picture, prices, key, message, cell) for cell in range(len(key[2]))]


def _costs_to(steps):
    """For each place a dict: for the ROOMS that STEPS lead to, the least price of these."""
    found = [{(): 0}]
    for there in steps:
        ahead, behind = found[-1], {}
        for room, _, led, price in there:
            if room in ahead and (led not in behind or ahead[room] + price < behind[led]):
                behind[led] = ahead[room] + price
        found.append(behind)
    return found


def _ways_from(steps):
    """For each place a dict: for the ROOMS from which STEPS lead to the end, their (least, greatest price, number)."""
    found = [{(): (0, 0, 1)}]
    for there in reversed(steps):
        behind, here = found[-1], {}
        for room, _, led, price in there:
            if led in behind:
                least, most, many = behind[led]
                old_least, old_most, old_many = here.get(room, (least + price, 0, 0))
                here[room] = (min(old_least, least + price), max(old_most, most + price), old_many + many)
        found.append(here)
    return found[::-1]


def least_slope(picture, prices, key, message):
    """The SLOPE with, in each ROOM, the least price of STEPS that lead there, None if none do."""
    found = _costs_to(_all_steps(picture, prices, key, message))
    return tuple([tuple([costs.get(room) for room in rooms_at(key, place)]) for place, costs in enumerate(found)])


def is_right_slope(picture, prices, key, message, thing):
    """Whether thing is a SLOPE that is right."""
    steps = _all_steps(picture, prices, key, message)
    if not _is_slope(key, thing) or thing[0] != (0,):
        return False
    told = [dict(zip(rooms_at(key, place), heights)) for place, heights in enumerate(thing)]
    return all(_is_right_there(there, told[cell], told[cell + 1]) for cell, there in enumerate(steps))


def _is_slope(key, thing):
    """Whether thing is a SLOPE of the places and ROOMS of key."""
    if not isinstance(thing, tuple) or not all(isinstance(heights, tuple) for heights in thing):
        return False
    if [len(heights) for heights in thing] != [power(key[0], wide) for wide in widths(key)]:
        return False
    return all(height is None or is_number(height) for heights in thing for height in heights)


def _is_right_there(there, ahead, behind):
    """Whether no STEP leads from a ROOM with a number to one with None, or with more than the price above it."""
    for room, _, led, price in there:
        if ahead[room] is not None and (behind[led] is None or behind[led] > ahead[room] + price):
            return False
    return True


def end_of(slope):
    """The END of slope."""
    return slope[-1][0]


def least_cost(picture, prices, key, message):
    """The COST of the cheapest PICTURES that hide message; None if nothing hides it."""
    return _costs_to(_all_steps(picture, prices, key, message))[-1].get(())


def cheapest_way(picture, prices, key, message):
    """The least way of least price; NoPaper() if there is none."""
    steps = _all_steps(picture, prices, key, message)
    onward = _ways_from(steps)
    if () not in onward[0]:
        raise NoPaper()
    room, way = (), []
    for cell, there in enumerate(steps):
        rest, room = _least_steps(there, room, onward[cell][room][0], onward[cell + 1])[0]
        way.append(rest)
    return tuple(way)


def _least_steps(there, room, least, behind):
    """The list of the pairs (REST, ROOM behind) of the STEPS from room with which ways on of the price least begin."""
    return [
        (rest, led) for own, rest, led, price in there
        if own == room and led in behind and behind[led][0] + price == least
    ]


def cheapest(picture, prices, key, message):
    """The first cheapest PICTURE; NoPaper() if nothing hides message."""
    return with_rests(picture, key[0], cheapest_way(picture, prices, key, message))


def is_cheapest(picture, prices, key, message, thing):
    """Whether thing is a PICTURE that hides message, and none costs less."""
    least = least_cost(picture, prices, key, message)
    return is_hiding(picture, prices, key, message, thing) and cost(picture, thing, prices) == least


def cheapest_paper(picture, prices, key, message):
    """The pair of the first cheapest PICTURE and the least SLOPE; NoPaper() if nothing hides message."""
    return (cheapest(picture, prices, key, message), least_slope(picture, prices, key, message))


def is_cheapest_paper(picture, prices, key, message, thing):
    """Whether thing is a PICTURE that hides message with a right SLOPE of which the END is its COST."""
    check_task(picture, prices, key, message)
    check_rooms(key)
    if not isinstance(thing, tuple) or len(thing) != 2:
        return False
    shown, slope = thing
    if not is_hiding(picture, prices, key, message, shown) or not is_right_slope(picture, prices, key, message, slope):
        return False
    return end_of(slope) == cost(picture, shown, prices)


def case_of(picture, prices, key, message):
    """A CASE: a CHEAPEST PAPER behind "hidden", or a BAR behind "barred"."""
    if least_cost(picture, prices, key, message) is None:
        return ("barred", word_against(picture, prices, key, message))
    return ("hidden",) + cheapest_paper(picture, prices, key, message)


def is_case(picture, prices, key, message, thing):
    """Whether thing is a CASE."""
    check_task(picture, prices, key, message)
    check_rooms(key)
    if not isinstance(thing, tuple) or thing == ():
        return False
    if thing[0] == "hidden":
        return is_cheapest_paper(picture, prices, key, message, thing[1:])
    return thing[0] == "barred" and len(thing) == 2 and is_bar(picture, prices, key, message, thing[1])


def ways_within(picture, prices, key, message, most):
    """How many ways that keep prices have a price of at most most."""
    steps = _all_steps(picture, prices, key, message)
    return _count_within(steps, _ways_from(steps), most)


def _count_within(steps, onward, most):
    """How many ways have a price of at most most, told how they go on from each ROOM."""
    held, total = {(): {0: 1}}, 0
    for there, ways in zip(steps, onward):
        sure, open_counts = _parted(held, ways, most)
        total += sure
        held = _counts_behind(there, open_counts)
    return total + _parted(held, onward[-1], most)[0]


def _parted(held, ways, most):
    """The number of ways that surely stay within most, and the counts of those that may or may not.

    held has, for each ROOM, for each price of STEPS that lead there, how many beginnings have it.
    """
    sure, open_counts = 0, {}
    for room, counts in held.items():
        if room in ways:
            least, greatest, many = ways[room]
            sure += many * sum([count for price, count in counts.items() if price + greatest <= most])
            open_counts[room] = {
                price: count for price, count in counts.items() if price + least <= most < price + greatest
            }
    return (sure, open_counts)


def _counts_behind(there, counts):
    """For each ROOM behind one more STEP, for each price how many beginnings have it."""
    behind = {}
    for room, _, led, fee in there:
        further = behind.setdefault(led, {})
        for price, count in counts.get(room, {}).items():
            further[price + fee] = further.get(price + fee, 0) + count
    return behind


def how_many_cheapest(picture, prices, key, message):
    """How many ways have the least price; 0 if there is none."""
    steps = _all_steps(picture, prices, key, message)
    onward = _ways_from(steps)
    if () not in onward[0]:
        return 0
    return _count_within(steps, onward, onward[0][()][0])


def next_cost(picture, prices, key, message):
    """The least price of a way that is above least_cost; None if there is none."""
    held = {(): [0]}
    for there in _all_steps(picture, prices, key, message):
        behind = {}
        for room, _, led, fee in there:
            behind.setdefault(led, []).extend([price + fee for price in held.get(room, [])])
        # What is dearer than two others to a ROOM stays so, however they go on.
        held = {led: sorted(set(found))[:2] for led, found in behind.items()}
    costs = held.get((), [])
    return costs[1] if len(costs) == 2 else None


def cost_with(picture, prices, key, message, cell, weight):
    """least_cost if cell has this weight, None to bar it; NoCell(cell), behind Unfit() and TooMany()."""
    check_task(picture, prices, key, message)
    check_rooms(key)
    check_cells(key, (cell,))
    return least_cost(picture, weighing(prices, (cell,), weight), key, message)


def _least_rests(picture, prices, key, message):
    """For each CELL the list of the RESTS that it has in the ways of least price."""
    steps = _all_steps(picture, prices, key, message)
    to, onward = _costs_to(steps), _ways_from(steps)
    least = to[-1].get(())
    found = []
    for cell, there in enumerate(steps):
        ahead, behind = to[cell], onward[cell + 1]
        found.append([
            rest for room, rest, led, price in there
            if room in ahead and led in behind and ahead[room] + price + behind[led][0] == least
        ])
    return found


def may_touch(picture, prices, key, message):
    """The set of the CELLS that some way of least price has with another REST than their own."""
    found = _least_rests(picture, prices, key, message)
    own = rests(picture, key[0])
    return tuple([cell for cell, had in enumerate(found) if any(rest != own[cell] for rest in had)])


def must_touch(picture, prices, key, message):
    """The set of the CELLS that each way of least price has with another REST than their own; () without one."""
    found = _least_rests(picture, prices, key, message)
    own = rests(picture, key[0])
    return tuple([cell for cell, had in enumerate(found) if had != [] and own[cell] not in had])
