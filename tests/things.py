"""Things of any kind, for what must be told or refused of anything, and small makers."""

from twicerun.errors import StillError


class Plain:
    """An object of a kind that the program knows nothing of."""


def nested(deep):
    thing = 1
    for _ in range(deep):
        thing = (thing, 1)
    return thing


def things():
    """Things of which none is anything that the program knows; no numbers with a point."""
    return [
        None, True, False, "", "a", "1/2", "(1, 2)", b"", b"ab", [], [1, 2], [[1, 2], [1, 2]],
        (), (1,), (None, None), (True, True), (False, True), ("1", "2"), ((1, 2, 3), 4), (1, 2, 3),
        ((), ()), ([], []), {}, {0: 1, 1: 2}, {"spirit": (1, 1)}, set(), {1, 2}, frozenset((1, 2)),
        Plain(), Plain, len, range(2), 10 ** 120, -(10 ** 120), -1, nested(12), [nested(11)],
        (nested(5), nested(5)), ((((),),),), bytearray(b"ab"), Ellipsis,
    ]


def whole(number):
    return (number, 1)


def liquor(spirit, water):
    return (whole(spirit), whole(water))


def list_of(thing):
    """The same thing written with lists for tuples, all the way down."""
    if isinstance(thing, tuple):
        return [list_of(part) for part in thing]
    return thing


def misspelt(thing):
    """A thing of tuples, numbers and small letters written a little otherwise, here or further down."""
    if isinstance(thing, tuple):
        yield list(thing)
        yield thing + (None,)
        yield thing[:-1] + (None,)
        for at, part in enumerate(thing):
            for other in misspelt(part):
                yield thing[:at] + (other,) + thing[at + 1:]
    elif isinstance(thing, str):
        yield from (thing.encode(), thing.upper(), thing + " ", " " + thing, list(thing), (thing,), "")
    else:
        yield str(thing)
        yield (thing,)
        if thing in (0, 1):
            yield bool(thing)


def outcome(call, *arguments):
    """What is told, or the class of the refusal; a failing of Python's own passes through."""
    try:
        return ("told", call(*arguments))
    except StillError as refusal:
        return ("refused", type(refusal))


def told_and_unchanged(case, call, *arguments):
    """The outcome, with a look whether all that was handed in is as it was."""
    before = repr(arguments)
    told = outcome(call, *arguments)
    case.assertEqual(repr(arguments), before)
    return told


def check_refusals(case, call, right, wrong):
    """Each wrong argument is refused with its class, whatever stands behind it, and changes nothing.

    right: arguments of which something is told; wrong: for each place a class and things refused with it.
    """
    before = outcome(call, *right)
    case.assertEqual(before[0], "told")
    for at, (kind, others) in enumerate(wrong):
        tails = {right[at + 1:]: True, (None,) * (len(right) - at - 1): True}
        for later in range(at + 1, len(right)):
            tails[right[at + 1:later] + (None,) + right[later + 1:]] = True
        for other in others:
            for tail in tails:
                told = told_and_unchanged(case, call, *right[:at], other, *tail)
                case.assertEqual(told, ("refused", kind), (call.__name__, at, other))
        case.assertEqual(outcome(call, *right), before)
