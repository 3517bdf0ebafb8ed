"""What every function of the interface is tried for, beside its own promise.

Each call is made by position, by names, with lists for tuples at every depth, and once more behind a spoilt answer.
"""

from tests import interface

FUNCTIONS = interface.everything()
NAMES = {name: names for name, (_, names) in interface.listed().items()}
NOTHING_LEFT = object()


class Raises:
    """What a call is to raise: the class of the error, and its values."""

    def __init__(self, name, **values):
        self.kind = FUNCTIONS[name]
        self.values = values

    def __repr__(self):
        told = ", ".join(f"{name}={value!r}" for name, value in self.values.items())
        return f"raises {self.kind.__name__}({told})"

    def __eq__(self, other):
        return isinstance(other, Raises) and (self.kind, self.values) == (other.kind, other.values)


class Fits:
    """What a call is to return where the document leaves a choice: anything of which judge tells True."""

    def __init__(self, judge):
        self.judge = judge


def raised(error):
    """The error as a Raises."""
    return Raises(type(error).__name__, **vars(error))


def outcome(name, args, by_names=False):
    """What the call returns, or its error as a Raises."""
    try:
        if by_names:
            return FUNCTIONS[name](**dict(zip(NAMES[name], args)))
        return FUNCTIONS[name](*args)
    except (LookupError, ValueError) as error:
        if type(error) not in [FUNCTIONS[own] for own, _, _ in interface.ERRORS]:
            raise
        return raised(error)


def same(one, other):
    """Whether both are equal and of one kind throughout: no bool for a number, no list for a tuple."""
    if type(one) is not type(other):
        return False
    if isinstance(one, (list, tuple)):
        return len(one) == len(other) and all(same(left, right) for left, right in zip(one, other))
    return one == other


def has_list(value):
    """Whether there is a list in value, or value is one."""
    return isinstance(value, list) or isinstance(value, tuple) and any(has_list(part) for part in value)


def exchanged(value):
    """The value with lists for all tuples, and tuples for all lists."""
    if isinstance(value, tuple):
        return [exchanged(part) for part in value]
    if isinstance(value, list):
        return tuple(exchanged(part) for part in value)
    return value


def with_one_list(value):
    """The values that have a list for just one of the tuples in value."""
    if isinstance(value, tuple):
        yield list(value)
        for place, part in enumerate(value):
            for other in with_one_list(part):
                yield value[:place] + (other,) + value[place + 1:]


def argument_forms(name, args):
    """The args with lists for tuples: all of them, and just one at a time, but never in thing."""
    free = [own for own in range(len(args)) if NAMES[name][own] != "thing"]
    yield tuple(exchanged(value) if own in free else value for own, value in enumerate(args))
    for own in free:
        for other in with_one_list(args[own]):
            yield args[:own] + (other,) + args[own + 1:]


def spoil(told):
    """The list told made useless, as a caller may."""
    if isinstance(told, list):
        told.append("spoilt")
        told[0] = NOTHING_LEFT
        told.reverse()


def check_call(case, name, args, expected):
    """Checks the call, and all that the general rules ask of it."""
    with case.subTest(call=name, args=args):
        told = outcome(name, args)
        if isinstance(expected, Fits):
            case.assertTrue(expected.judge(told), told)
            expected = outcome(name, args)
        case.assertTrue(same(told, expected), f"{told!r} for {expected!r}")
        case.assertFalse(has_list(told if not isinstance(told, list) else tuple(told)))
        spoil(told)
        case.assertTrue(same(outcome(name, args), expected), "another answer later")
        case.assertTrue(same(outcome(name, args, by_names=True), expected), "another answer by names")
        for form in argument_forms(name, args):
            before = repr(form)
            case.assertTrue(same(outcome(name, form), expected), f"another answer for {form!r}")
            case.assertEqual(repr(form), before, "arguments were changed")


def check_calls(case, *calls):
    """Checks calls, each given as its name, its args and what is expected."""
    for name, args, expected in calls:
        check_call(case, name, args, expected)


def nested(depth):
    """A tuple nested so deep."""
    return () if depth == 1 else (nested(depth - 1),)


JUNK = (
    True, False, None, "", "0", "a", "(0,)", -1, 7, 10 ** 30, [], [0], [[0]], (), (True,), (False,), (None,), ("0",),
    ("",), (-1,), (7,), ([],), ((),), ((), ()), ((0,), ()), (0, (0,)), ((True,),), ((None,),), nested(12), [nested(11)],
    (4, None), (4, 0), (4, ()), (4, ((),)), (2, 0, ()), (2, 1, 0), (2, 1, None), (None, None, None),
)


def spoilt(value):
    """The values that are as value, but for one thing in it that makes them another kind: a list, a bool, a text."""
    if isinstance(value, tuple):
        yield list(value)
        for place, part in enumerate(value):
            for other in spoilt(part):
                yield value[:place] + (other,) + value[place + 1:]
    elif isinstance(value, int):
        yield from (value == 1, bool(value), str(value), (value,), [value], -1 - value)


def check_things(case, name, args, right, wrong=(), fine=(), judge=None):
    """Checks that the function tells True of right, False of wrong, of what is spoilt and of all junk but fine.

    Where what is spoilt may still be right, judge tells whether it is.
    """
    for thing in right:
        check_call(case, name, args + (thing,), True)
        for other in spoilt(thing):
            check_told(case, name, args, other, judge is not None and judge(other))
    for thing in wrong:
        check_call(case, name, args + (thing,), False)
    for thing in JUNK:
        check_told(case, name, args, thing, any(same(thing, own) for own in fine))


def check_told(case, name, args, thing, expected):
    """Checks what the function tells of thing, with args ahead of it."""
    told = outcome(name, args + (thing,))
    case.assertIs(told, expected, f"{name} of {args!r} and {thing!r}")


def check_raises_of_things(case, name, args, expected):
    """Checks that an error of the other arguments is raised whatever thing is."""
    for thing in JUNK:
        case.assertEqual(outcome(name, args + (thing,)), expected, f"{name} of {args!r} and {thing!r}")
