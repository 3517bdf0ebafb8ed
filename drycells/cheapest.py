"""The cheapest PICTURE that hides a MESSAGE, with a SLOPE that shows that none is cheaper."""

from drycells.errors import NoPaper
from drycells.hiding import check_task, is_bar, is_hiding, word_against
from drycells.keys import check_cells
from drycells.pictures import rests
from drycells.plain import is_number
from drycells.prices import cost, weighing, with_rests
from drycells.rooms import check_rooms, priced_steps


def price_above(prices, p):
    """A price that no way reaches: a CHEAPEST GREY differs by at most p - 1."""
    return 1 + (p - 1) * sum([price for price in prices if price is not None])


def costs_behind(there, ahead, size, above):
    """The list of the least prices to each of size ROOMS behind the STEPS there, above where none lead."""
    behind = [above] * size
    for _, price, pairs in there:
        for room, led in pairs:
            total = ahead[room] + price
            if total < behind[led]:
                behind[led] = total
    return behind


def costs_to(sizes, steps, above):
    """For each place the list of the least prices of STEPS that lead to its ROOMS, above where none do."""
    found = [[0]]
    for there, size in zip(steps, sizes[1:]):
        found.append(costs_behind(there, found[-1], size, above))
    return found


def costs_on(sizes, steps, above):
    """For each place the list of the least prices of STEPS that lead on from its ROOMS to the end, likewise."""
    found = [[0]]
    for there, size in zip(steps[::-1], sizes[-2::-1]):
        behind, here = found[-1], [above] * size
        for _, price, pairs in there:
            for room, led in pairs:
                total = behind[led] + price
                if total < here[room]:
                    here[room] = total
        found.append(here)
    return found[::-1]


def _planned(picture, prices, key, message):
    """The triple (numbers of ROOMS, STEPS, a price that no way reaches); Unfit() if they do not fit, then TooMany()."""
    sizes, steps = priced_steps(picture, prices, key, message)
    return (sizes, steps, price_above(prices, key[0]))


def as_slope(costs, above):
    """The SLOPE of these costs, None for above."""
    return tuple([tuple([None if cost_there == above else cost_there for cost_there in there]) for there in costs])


def least_slope(picture, prices, key, message):
    """The SLOPE with, in each ROOM, the least price of STEPS that lead there, None if none do."""
    sizes, steps, above = _planned(picture, prices, key, message)
    return as_slope(costs_to(sizes, steps, above), above)


def is_right_slope(picture, prices, key, message, thing):
    """Whether thing is a SLOPE that is right."""
    sizes, steps = priced_steps(picture, prices, key, message)
    if not is_slope(sizes, thing) or thing[0] != (0,):
        return False
    return all([_is_right_there(there, thing[cell], thing[cell + 1]) for cell, there in enumerate(steps)])


def is_slope(sizes, thing):
    """Whether thing is a SLOPE with so many ROOMS at each place."""
    if not isinstance(thing, tuple) or not all([isinstance(heights, tuple) for heights in thing]):
        return False
    if [len(heights) for heights in thing] != sizes:
        return False
    return all([height is None or is_number(height) for heights in thing for height in heights])


def _is_right_there(there, ahead, behind):
    """Whether no STEP leads from a ROOM with a number to one with None, or with more than the price above it."""
    for _, price, pairs in there:
        for room, led in pairs:
            if ahead[room] is not None and (behind[led] is None or behind[led] > ahead[room] + price):
                return False
    return True


def end_of(slope):
    """The END of slope."""
    return slope[-1][0]


def least_cost(picture, prices, key, message):
    """The COST of the cheapest PICTURES that hide message; None if nothing hides it."""
    sizes, steps, above = _planned(picture, prices, key, message)
    return _end_cost(sizes, steps, above)


def _end_cost(sizes, steps, above):
    """The least price of a way; None if there is none."""
    costs = [0]
    for there, size in zip(steps, sizes[1:]):
        costs = costs_behind(there, costs, size, above)
    return None if costs[0] == above else costs[0]


def cheapest_way(picture, prices, key, message):
    """The least way of least price; NoPaper() if there is none."""
    sizes, steps, above = _planned(picture, prices, key, message)
    return _least_way(sizes, steps, above)


def _least_way(sizes, steps, above):
    """The least way of least price; NoPaper() if there is none."""
    costs, choices = [0], []
    for there, size in zip(steps[::-1], sizes[-2::-1]):
        costs, choice = _choices_there(there, costs, size, above)
        choices.append(choice)
    if costs[0] == above:
        raise NoPaper()
    room, way = 0, []
    for choice in choices[::-1]:
        rest, room = choice[room]
        way.append(rest)
    return tuple(way)


def _choices_there(there, behind, size, above):
    """The lists of the least prices on from each ROOM, and of the (REST, ROOM behind) with which that begins."""
    costs, choice = [above] * size, [None] * size
    # RESTS ascend: of several that are as good the least one stays.
    for rest, price, pairs in there:
        for room, led in pairs:
            total = behind[led] + price
            if total < costs[room]:
                costs[room] = total
                choice[room] = (rest, led)
    return (costs, choice)


def cheapest(picture, prices, key, message):
    """The first cheapest PICTURE; NoPaper() if nothing hides message."""
    return with_rests(picture, key[0], cheapest_way(picture, prices, key, message))


def is_cheapest(picture, prices, key, message, thing):
    """Whether thing is a PICTURE that hides message, and none costs less."""
    least = least_cost(picture, prices, key, message)
    return is_hiding(picture, prices, key, message, thing) and cost(picture, thing, prices) == least


def cheapest_paper(picture, prices, key, message):
    """The pair of the first cheapest PICTURE and the least SLOPE; NoPaper() if nothing hides message."""
    sizes, steps, above = _planned(picture, prices, key, message)
    way = _least_way(sizes, steps, above)
    return (with_rests(picture, key[0], way), as_slope(costs_to(sizes, steps, above), above))


def is_cheapest_paper(picture, prices, key, message, thing):
    """Whether thing is a PICTURE that hides message with a right SLOPE of which the END is its COST."""
    check_task(picture, prices, key, message)
    check_rooms(key)
    if not isinstance(thing, tuple) or len(thing) != 2:
        return False
    shown, slope = thing
    if not is_hiding(picture, prices, key, message, shown) or not is_right_slope(picture, prices, key, message, slope):
        return False
    return end_of(slope) == cost(picture, shown, prices)


def case_of(picture, prices, key, message):
    """A CASE: a CHEAPEST PAPER behind "hidden", or a BAR behind "barred"."""
    sizes, steps, above = _planned(picture, prices, key, message)
    costs = costs_to(sizes, steps, above)
    if costs[-1][0] == above:
        return ("barred", word_against(picture, prices, key, message))
    shown = with_rests(picture, key[0], _least_way(sizes, steps, above))
    return ("hidden", shown, as_slope(costs, above))


def is_case(picture, prices, key, message, thing):
    """Whether thing is a CASE."""
    check_task(picture, prices, key, message)
    check_rooms(key)
    if not isinstance(thing, tuple) or thing == ():
        return False
    if thing[0] == "hidden":
        return is_cheapest_paper(picture, prices, key, message, thing[1:])
    return thing[0] == "barred" and len(thing) == 2 and is_bar(picture, prices, key, message, thing[1])


def ways_within(picture, prices, key, message, most):
    """How many ways that keep prices have a price of at most most."""
    sizes, steps, above = _planned(picture, prices, key, message)
    onward = _ways_on(sizes, steps, above)
    held, total = {0: {0: 1}}, 0
    for there, ways in zip(steps, onward):
        sure, open_counts = _parted(held, ways, most)
        total += sure
        held = _counts_behind(there, open_counts)
    return total + _parted(held, onward[-1], most)[0]


def _ways_on(sizes, steps, above):
    """For each place the list of the (least, greatest price, number) of the ways on from its ROOMS."""
    found = [[(0, 0, 1)]]
    for there, size in zip(steps[::-1], sizes[-2::-1]):
        behind, here = found[-1], [(above, 0, 0)] * size
        for _, price, pairs in there:
            for room, led in pairs:
                least, most, many = behind[led]
                if many > 0:
                    old_least, old_most, old_many = here[room]
                    here[room] = (min(old_least, least + price), max(old_most, most + price), old_many + many)
        found.append(here)
    return found[::-1]


def _parted(held, ways, most):
    """The number of ways that surely stay within most, and the counts of those that may or may not.

    held has, for each ROOM, for each price of STEPS that lead there, how many beginnings have it.
    """
    sure, open_counts = 0, {}
    for room, counts in held.items():
        least, greatest, many = ways[room]
        sure += many * sum([count for price, count in counts.items() if price + greatest <= most])
        left = {price: count for price, count in counts.items() if price + least <= most < price + greatest}
        if left != {}:
            open_counts[room] = left
    return (sure, open_counts)


def _counts_behind(there, counts):
    """For each ROOM behind one more STEP, for each price how many beginnings have it."""
    behind = {}
    for _, fee, pairs in there:
        for room, led in pairs:
            if room in counts:
                further = behind.setdefault(led, {})
                for price, count in counts[room].items():
                    further[price + fee] = further.get(price + fee, 0) + count
    return behind


def how_many_cheapest(picture, prices, key, message):
    """How many ways have the least price; 0 if there is none."""
    sizes, steps, above = _planned(picture, prices, key, message)
    costs, counts = [0], [1]
    for there, size in zip(steps, sizes[1:]):
        costs, counts = _cheapest_behind(there, costs, counts, size, above)
    return counts[0]


def _cheapest_behind(there, ahead, many, size, above):
    """The lists of the least prices to the ROOMS behind the STEPS there, and of how many beginnings have these."""
    costs, counts = [above] * size, [0] * size
    for _, price, pairs in there:
        for room, led in pairs:
            total = ahead[room] + price
            if total < costs[led]:
                costs[led] = total
                counts[led] = many[room]
            elif total == costs[led]:
                counts[led] += many[room]
    return (costs, counts)


def next_cost(picture, prices, key, message):
    """The least price of a way that is above least_cost; None if there is none."""
    sizes, steps, above = _planned(picture, prices, key, message)
    least, further = [0], [above]
    for there, size in zip(steps, sizes[1:]):
        least, further = _two_behind(there, least, further, size, above)
    return None if further[0] == above else further[0]


def _two_behind(there, least_ahead, next_ahead, size, above):
    """The lists of the least prices, and of the next ones, to the ROOMS behind the STEPS there."""
    # What is dearer than two others to a ROOM stays so, however they go on.
    least, further = [above] * size, [above] * size
    for _, price, pairs in there:
        for room, led in pairs:
            total = least_ahead[room] + price
            if total < least[led]:
                further[led] = min(least[led], next_ahead[room] + price)
                least[led] = total
            elif total > least[led]:
                further[led] = min(further[led], total)
            else:
                further[led] = min(further[led], next_ahead[room] + price)
    return (least, further)


def cost_with(picture, prices, key, message, cell, weight):
    """least_cost if cell has this weight, None to bar it; NoCell(cell), behind Unfit() and TooMany()."""
    check_task(picture, prices, key, message)
    check_rooms(key)
    check_cells(key, (cell,))
    return least_cost(picture, weighing(prices, (cell,), weight), key, message)


def _least_rests(picture, prices, key, message):
    """For each CELL the list of the RESTS that it has in the ways of least price."""
    sizes, steps, above = _planned(picture, prices, key, message)
    to, onward = costs_to(sizes, steps, above), costs_on(sizes, steps, above)
    least = to[-1][0]
    if least == above:
        return [[] for _ in steps]
    return [
        [rest for rest, price, pairs in there if _is_joined(to[cell], pairs, onward[cell + 1], least - price)]
        for cell, there in enumerate(steps)
    ]


def _is_joined(ahead, pairs, behind, most):
    """Whether some pair of ROOMS has ahead and behind just most added up."""
    for room, led in pairs:
        if ahead[room] + behind[led] == most:
            return True
    return False


def may_touch(picture, prices, key, message):
    """The set of the CELLS that some way of least price has with another REST than their own."""
    found = _least_rests(picture, prices, key, message)
    own = rests(picture, key[0])
    return tuple([cell for cell, had in enumerate(found) if any([rest != own[cell] for rest in had])])


def must_touch(picture, prices, key, message):
    """The set of the CELLS that each way of least price has with another REST than their own; () without one."""
    found = _least_rests(picture, prices, key, message)
    own = rests(picture, key[0])
    return tuple([cell for cell, had in enumerate(found) if had != [] and own[cell] not in had])
