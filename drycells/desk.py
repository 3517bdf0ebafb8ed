"""A DESK: requests that change a SCENE, tell what is in it, and take deeds back or do them again."""

from drycells.anylots import most_barred
from drycells.cheapest import cheapest, least_cost
from drycells.errors import BadLine, BadText, NoCell, NoPaper, NothingDone, TooMany, Unfit
from drycells.hiding import word_against
from drycells.keys import check_cells
from drycells.most import most_touches
from drycells.pictures import cells_in, with_grey
from drycells.plain import in_tuples
from drycells.prices import barring, cost, even_prices, weighing
from drycells.reading import reading
from drycells.texts import (
    is_figures, key_text, lines_of, picture_text, prices_text, read_key, read_picture, read_prices, read_row, row_text,
    touched_text,
)

# What stands behind the word of a request without a text: C for a number, M for DIGITS.
PARTS = {
    "bar": "C", "weigh": "CC", "put": "CC", "hide": "M", "keep": "", "undo": "", "redo": "", "first": "", "held": "",
    "prices": "", "key": "", "read": "", "touched": "", "cost": "", "price": "M", "why": "M", "most": "", "any": "",
}
MOST_NUMBER_SIGNS = 4
MOST_DIGITS = 12
MESSAGE_SIGNS = "01234"


def first_desk():
    """The DESK with which all begins."""
    least = (4, ((0,),))
    return ((least, least, (1,), (2, 0, ((),))), (), ())


def is_request(thing):
    """Whether thing is a string that is one request, whatever its text."""
    if not isinstance(thing, str) or thing == "":
        return False
    lines = lines_of(thing)
    if not all([line.startswith(" ") for line in lines[1:]]):
        return False
    if len(lines) > 1:
        return lines[0] in TEXT_DEEDS
    words = thing.split(" ")
    if words[0] not in PARTS or len(words) - 1 != len(PARTS[words[0]]):
        return False
    return all([_is_part(kind, word) for kind, word in zip(PARTS[words[0]], words[1:])])


def _is_part(kind, word):
    """Whether word is a number (C) or DIGITS (M) of a request."""
    if kind == "C":
        return is_figures(word) and len(word) <= MOST_NUMBER_SIGNS
    return word == "-" or 0 < len(word) <= MOST_DIGITS and all([sign in MESSAGE_SIGNS for sign in word])


def requests(text):
    """The list of the requests of text; BadLine(number) of the first line where one that is none begins, or should."""
    found = []
    for place, line in enumerate(lines_of(text)):
        if line.startswith(" ") and found != []:
            found[-1][1].append(line)
        else:
            found.append((place + 1, [line]))
    told = []
    for number, lines in found:
        told.append("\n".join(lines))
        if not is_request(told[-1]):
            raise BadLine(number)
    return told


def _do_picture(scene, text):
    picture = read_picture(text)
    many = cells_in(picture)
    return (picture, picture, even_prices(picture, 1), (2, 0, ((),) * many))


def _do_prices(scene, text):
    first, held, _, key = scene
    prices = read_prices(text)
    if len(prices) != cells_in(first):
        raise Unfit()
    return (first, held, prices, key)


def _do_key(scene, text):
    first, held, prices, _ = scene
    key = read_key(text)
    if len(key[2]) != cells_in(first):
        raise Unfit()
    return (first, held, prices, key)


def _do_bar(scene, cell):
    first, held, prices, key = scene
    lot = _lot_of(key, cell)
    return (first, held, barring(prices, lot), key)


def _do_weigh(scene, cell, weight):
    first, held, prices, key = scene
    lot = _lot_of(key, cell)
    return (first, held, weighing(prices, lot, int(weight)), key)


def _lot_of(key, word):
    """The LOT of the CELL with this number alone; NoCell(number) if there is none."""
    lot = (int(word),)
    check_cells(key, lot)
    return lot


def _do_put(scene, cell, grey):
    first, held, prices, key = scene
    return (first, with_grey(held, int(cell), int(grey)), prices, key)


def _do_hide(scene, digits):
    first, held, prices, key = scene
    message = read_row(key[0], digits)
    return (first, cheapest(held, prices, key, message), prices, key)


def _do_keep(scene):
    _, held, prices, key = scene
    return (held, held, prices, key)


TEXT_DEEDS = {"picture": _do_picture, "prices": _do_prices, "key": _do_key}
DEEDS = {"bar": _do_bar, "weigh": _do_weigh, "put": _do_put, "hide": _do_hide, "keep": _do_keep}


def _tell_first(scene):
    return picture_text(scene[0])


def _tell_held(scene):
    return picture_text(scene[1])


def _tell_prices(scene):
    return prices_text(scene[2])


def _tell_key(scene):
    return key_text(scene[3])


def _tell_read(scene):
    return row_text(reading(scene[1], scene[3]))


def _tell_touched(scene):
    return touched_text(scene[0], scene[1])


def _tell_cost(scene):
    return cost(scene[0], scene[1], scene[2])


def _tell_price(scene, digits):
    _, held, prices, key = scene
    message = read_row(key[0], digits)
    return least_cost(held, prices, key, message)


def _tell_why(scene, digits):
    _, held, prices, key = scene
    message = read_row(key[0], digits)
    return row_text(word_against(held, prices, key, message))


def _tell_most(scene):
    return most_touches(scene[3])


def _tell_any(scene):
    return most_barred(scene[3])


LOOKS = {
    "first": _tell_first, "held": _tell_held, "prices": _tell_prices, "key": _tell_key, "read": _tell_read,
    "touched": _tell_touched, "cost": _tell_cost, "price": _tell_price, "why": _tell_why, "most": _tell_most,
    "any": _tell_any,
}


def _has_text(request):
    return len(lines_of(request)) > 1


def _word_of(request):
    """The first word of request."""
    return lines_of(request)[0].split(" ")[0]


def _is_deed(request):
    """Whether request, which is one, is a deed."""
    return _has_text(request) or _word_of(request) in DEEDS


def _is_look(request):
    """Whether request, which is one, is a look."""
    return not _has_text(request) and _word_of(request) in LOOKS


def scene_after(scene, request):
    """The SCENE behind the deed request; Unfit() if that is none, then the errors of what is called."""
    if not is_request(request) or not _is_deed(request):
        raise Unfit()
    return _scene_after(in_tuples(scene), request)


def _scene_after(scene, request):
    """The SCENE behind the deed request, scene made of tuples."""
    lines = lines_of(request)
    if len(lines) > 1:
        deed = TEXT_DEEDS[lines[0]]
        return deed(scene, "\n".join([line[1:] for line in lines[1:]]))
    word, *parts = request.split(" ")
    deed = DEEDS[word]
    return deed(scene, *parts)


def said(scene, request):
    """What the look request tells; Unfit() if that is none, then the errors of what is called."""
    if not is_request(request) or not _is_look(request):
        raise Unfit()
    return _said(in_tuples(scene), request)


def _said(scene, request):
    """What the look request tells, scene made of tuples."""
    word, *parts = request.split(" ")
    look = LOOKS[word]
    told = look(scene, *parts)
    return "-" if told is None or told == "" else str(told)


def worked(desk, request):
    """The pair of the DESK behind request and of its reply; Unfit() if that is no request."""
    if not is_request(request):
        raise Unfit()
    return _worked(in_tuples(desk), request)


def _worked(desk, request):
    """The pair of the DESK behind request and of its reply, desk made of tuples; what raises changes nothing."""
    try:
        return _done(desk, request)
    except Unfit:
        return (desk, "refused Unfit")
    except NoPaper:
        return (desk, "refused NoPaper")
    except TooMany:
        return (desk, "refused TooMany")
    except NoCell:
        return (desk, "refused NoCell")
    except BadText:
        return (desk, "refused BadText")
    except BadLine:
        return (desk, "refused BadLine")
    except NothingDone:
        return (desk, "refused NothingDone")


def _done(desk, request):
    """The pair of the DESK behind request and of its reply; the errors of what is called."""
    scene, past, later = desk
    if _is_deed(request):
        return ((_scene_after(scene, request), past + ((_word_of(request), scene),), ()), "done")
    if _is_look(request):
        return (desk, _said(scene, request))
    if request == "undo":
        word, other, past, later = _exchanged(scene, past, later)
    else:
        word, other, later, past = _exchanged(scene, later, past)
    return ((other, past, later), word)


def _exchanged(scene, taken, given):
    """The last word and SCENE of taken, taken without them, and given with this word and scene; NothingDone()."""
    if taken == ():
        raise NothingDone()
    word, other = taken[-1]
    return (word, other, taken[:-1], given + ((word, scene),))


def session(desk, text):
    """The pair of the DESK behind all requests of text and of the tuple of their replies; BadLine(number) as these."""
    now, replies = in_tuples(desk), []
    for request in requests(text):
        now, reply = _worked(now, request)
        replies.append(reply)
    return (now, tuple(replies))
