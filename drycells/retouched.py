"""TASKS that are edited: what is kept of their SLOPES, and what becomes of a PICTURE that hides the MESSAGE."""

from drycells.cheapest import (
    as_slope, cheapest, costs_behind, is_cheapest, is_slope, least_cost, least_slope, price_above,
)
from drycells.digits import is_digit, is_row
from drycells.errors import Unfit
from drycells.hiding import check_priced, is_hiding
from drycells.keys import check_small, is_key, is_message
from drycells.pictures import cells_in, grey_at, is_grey, is_picture, touched_cells, with_grey
from drycells.plain import in_tuples, is_number, many_in, power
from drycells.prices import all_fees, is_price, is_prices
from drycells.rooms import check_rooms, priced_steps, reading_tables, with_fees


def is_task(thing):
    """Whether thing is a TASK."""
    if not isinstance(thing, tuple) or len(thing) != 4:
        return False
    picture, prices, key, message = thing
    if not is_picture(picture) or not is_prices(picture, prices) or not is_key(key):
        return False
    return len(key[2]) == cells_in(picture) and is_message(key, message)


def is_edit(task, thing):
    """Whether thing is an EDIT of task; Unfit() if its parts do not go together, here and below."""
    return _is_edit_of(_fitting_task(task), thing)


def _fitting_task(task):
    """The task, made of tuples; Unfit() if it is none."""
    own = in_tuples(task)
    if not is_task(own):
        raise Unfit()
    return own


def _is_edit_of(task, thing):
    """Whether thing is an EDIT of task, which is a TASK."""
    if not isinstance(thing, tuple) or thing == ():
        return False
    if thing[0] == "less":
        return len(thing) == 1 and task[2][1] > 0
    return len(thing) == 3 and _is_change_of(task, thing)


def _is_change_of(task, edit):
    """Whether edit, a triple, is an EDIT of task."""
    picture, prices, key, message = task
    word, first, second = edit
    if word in ("grey", "weight"):
        fits = is_grey(picture[0], second) if word == "grey" else is_price(second)
        return fits and is_number(first) and 0 <= first < len(prices)
    if word == "digit":
        return is_number(first) and 0 <= first < len(message) and is_digit(key[0], second)
    return word == "more" and is_row(key[0], first) and len(first) == len(prices) and is_digit(key[0], second)


def _fitting_edit(task, edit):
    """The edit, made of tuples; Unfit() if it is none of task."""
    own = in_tuples(edit)
    if not _is_edit_of(task, own):
        raise Unfit()
    return own


def edited(task, edit):
    """What becomes of task; Unfit() if edit is none of it, here and below."""
    own = _fitting_task(task)
    return _edited(own, _fitting_edit(own, edit))


def _edited(task, edit):
    """What becomes of task, both made of tuples."""
    picture, prices, key, message = task
    p, many, columns = key
    word = edit[0]
    if word == "grey":
        return (with_grey(picture, edit[1], edit[2]), prices, key, message)
    if word == "weight":
        return (picture, _with_item(prices, edit[1], edit[2]), key, message)
    if word == "digit":
        return (picture, prices, key, _with_item(message, edit[1], edit[2]))
    if word == "more":
        grown = tuple([column + (digit,) for column, digit in zip(columns, edit[1])])
        return (picture, prices, (p, many + 1, grown), message + (edit[2],))
    return (picture, prices, (p, many - 1, tuple([column[:-1] for column in columns])), message[:-1])


def _with_item(values, place, value):
    """The tuple values with value at place."""
    return values[:place] + (value,) + values[place + 1:]


def edited_by(task, edits):
    """What becomes of task by edits, each of the TASK that came of those ahead."""
    return _tasks_along(_fitting_task(task), edits)[0][-1]


def _tasks_along(task, edits):
    """The pair of the list of task and what becomes of it by each of edits, and the list of these, made of tuples."""
    if many_in(edits) is None:
        raise Unfit()
    tasks, changes = [task], []
    for edit in edits:
        changes.append(_fitting_edit(tasks[-1], edit))
        tasks.append(_edited(tasks[-1], changes[-1]))
    return (tasks, changes)


def edit_back(task, edit):
    """The EDIT that leads from what becomes of task to task."""
    own = _fitting_task(task)
    return _edit_back(own, _fitting_edit(own, edit))


def _edit_back(task, edit):
    """The EDIT that leads back to task, both made of tuples."""
    picture, prices, key, message = task
    word = edit[0]
    if word == "more":
        return ("less",)
    if word == "less":
        return ("more", tuple([column[-1] for column in key[2]]), message[-1])
    place = edit[1]
    if word == "grey":
        return (word, place, grey_at(picture, place))
    return (word, place, prices[place] if word == "weight" else message[place])


def way_back(task, edits):
    """The tuple of the EDITS that lead back, the last one first."""
    tasks, changes = _tasks_along(_fitting_task(task), edits)
    return tuple([_edit_back(own, change) for own, change in zip(tasks, changes)][::-1])


def last_kept(task, edit):
    """The last place that edit keeps."""
    own = _fitting_task(task)
    return _last_kept(own, _fitting_edit(own, edit))


def _last_kept(task, edit):
    """The last place that edit keeps, both made of tuples."""
    _, _, key, message = task
    columns, word = key[2], edit[0]
    if word in ("grey", "weight"):
        return edit[1]
    if word == "digit":
        turned = [cell for cell, column in enumerate(columns) if column[edit[1]] != 0]
        return turned[-1] if turned != [] else 0
    if word == "more":
        return _first_turned(edit[1], edit[2])
    return _first_turned([column[-1] for column in columns], message[-1])


def _first_turned(digits, aim):
    """The place of the first of digits, a row that comes or goes, that is not 0; else all places if aim is 0."""
    turned = [cell for cell, digit in enumerate(digits) if digit != 0]
    if turned != []:
        return turned[0]
    return len(digits) if aim == 0 else 0


def regrown(task, slope, place):
    """The rows of slope to place, behind them the least prices that lead on from its numbers there; then TooMany()."""
    return _regrown(_fitting_task(task), in_tuples(slope), place)


def _regrown(task, slope, place):
    """What regrown tells, of a task and a slope made of tuples."""
    picture, prices, key, message = task
    sizes, steps = priced_steps(picture, prices, key, message)
    heights = slope[place]
    above = price_above(prices, key[0]) + max([height for height in heights if height is not None], default=0)
    costs, grown = [above if height is None else height for height in heights], []
    for there, size in zip(steps[place:], sizes[place + 1:]):
        costs = costs_behind(there, costs, size, above)
        grown.append(costs)
    return slope[:place + 1] + as_slope(grown, above)


def stage_of(task):
    """The STAGE of task; TooMany(), behind Unfit(), here and below but for followed."""
    picture, prices, key, message = _fitting_task(task)
    return ((picture, prices, key, message), least_slope(picture, prices, key, message))


def is_stage(thing):
    """Whether thing is a STAGE; TooMany() by the TASK in it, if there is one."""
    if not isinstance(thing, tuple) or len(thing) != 2 or not is_task(thing[0]):
        return False
    picture, prices, key, message = thing[0]
    least = least_slope(picture, prices, key, message)
    return is_slope([len(heights) for heights in least], thing[1]) and thing[1] == least


def _task_in(stage):
    """The TASK of stage, made of tuples; Unfit() if it has none."""
    if many_in(stage) != 2:
        raise Unfit()
    return _fitting_task(stage[0])


def next_stage(stage, edit):
    """The STAGE of what becomes of its TASK."""
    return stages_by(stage, (edit,))[1]


def stages_by(stage, edits):
    """The list of the STAGES to which edits lead, stage the first."""
    tasks, changes = _tasks_along(_task_in(stage), edits)
    for own in tasks:
        check_rooms(own[2])
    slopes = [in_tuples(stage[1])]
    for number, change in enumerate(changes):
        slopes.append(_regrown(tasks[number + 1], slopes[-1], _last_kept(tasks[number], change)))
    return list(zip(tasks, slopes))


def stage_picture(stage):
    """The first cheapest PICTURE of the TASK of stage; NoPaper() if there is none."""
    picture, prices, key, message = _task_in(stage)
    return cheapest(picture, prices, key, message)


def followed(task, shown, edit):
    """The PICTURE shown as it follows edit; Unfit() if it does not hide the MESSAGE of task, here and below."""
    own = _fitting_task(task)
    return _followed(own, shown, _fitting_edit(own, edit))


def _followed(task, shown, edit):
    """What followed tells, of a task and an edit made of tuples."""
    picture, prices, key, message = task
    own = in_tuples(shown)
    if not is_hiding(picture, prices, key, message, own):
        raise Unfit()
    if edit[0] != "grey" or edit[1] in touched_cells(picture, own):
        return own
    return with_grey(own, edit[1], edit[2])


def still_cheapest(task, shown, edit):
    """Whether shown as it follows is a cheapest PICTURE that hides the MESSAGE of the edited TASK."""
    own = _fitting_task(task)
    change = _fitting_edit(own, edit)
    later = _followed(own, shown, change)
    picture, prices, key, message = _edited(own, change)
    check_rooms(own[2])
    return is_cheapest(picture, prices, key, message, later)


def anew_and_on(task, shown, edit):
    """The pair of least_cost of the edited TASK and of that with shown for its PICTURE; Unfit() for "grey", too."""
    own = _fitting_task(task)
    change = _fitting_edit(own, edit)
    later = _followed(own, shown, change)
    if change[0] == "grey":
        raise Unfit()
    picture, prices, key, message = _edited(own, change)
    check_rooms(own[2])
    return (least_cost(picture, prices, key, message), least_cost(later, prices, key, message))


def all_ends(picture, prices, key):
    """The tuple of least_cost for all MESSAGES, ascending; TooMany(), behind Unfit(), if p ** many is above 729."""
    check_priced(picture, prices, key)
    check_small(key)
    p, many, _ = key
    size, above = power(p, many), price_above(prices, p)
    costs = [0] + [above] * (size - 1)
    for there in with_fees(all_fees(picture, prices, p), reading_tables(key)):
        costs = costs_behind(there, costs, size, above)
    return as_slope([costs], above)[0]
