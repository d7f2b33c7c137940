"""Wrong values, and plain ways to find answers that the tests compare with."""

from itertools import product

from heapsdouble import errors
from heapsdouble.desks import Desk

LIMIT = 10 ** 30

# One of each kind that the document means by "any value", and some that contain such.
ANY_KINDS = [
    0, 1, 7, -1, LIMIT, LIMIT + 1, "", "heaps", "35", True, False, None,
    [], [3, 5], [(0, 1)], {}, {0: 3, 1: 5}, {"heaps": (3, 5)},
    (None,), ("3",), ([],), ({},), (True,), ((),),
    errors.HeapError(), errors.BadHeaps(), errors.BadPlan(None), errors.InvalidText(1, 2),
    Desk((3, 5)), (Desk((3, 5)), Desk((3, 5))),
]

NOT_HEAPS = ANY_KINDS + [
    (), (0,), (3,), (LIMIT,), (1,) * 7, (0,) * 7, (1,) * 1000,
    (0, 0), (0,) * 6, (3, -1), (-1, 3), (5, 5, 5, 5, 5, -1), (3, LIMIT + 1), (LIMIT + 1, 0),
    (True, 5), (3, False), (True, True), ("3", 5), (3, "5"), (3, None), (None, None),
    ([3], 5), (3, [5]), ((3, 5),), ((3, 5), (3, 5)), ((3,), 5), ({}, 5), (3, {0: 5}),
    (3, errors.BadHeaps()), ["3", "5"], "3 5",
]

# No steps of two heaps, of whatever size.
NOT_STEPS = ANY_KINDS + [
    (), (0,), (1,), (0, 1, 0), (0, 0), (1, 1), (0, 2), (2, 0), (2, 3), (-1, 0), (0, -1), (-2, -1),
    (0, LIMIT), (True, False), (True, 0), (1, False), (0, True), (False, 1),
    ("0", "1"), (0, "1"), (None, 0), (0, None), ([0], 1), (0, [1]), ((0, 1),), ((0,), 1), ({}, 1),
    (0, errors.BadStep()), [0, 1], [1, 0], {0, 1}, {0: 1},
]

NOT_PLANS = [value for value in ANY_KINDS if not isinstance(value, tuple)] + [[], [(1, 0)], {(1, 0): 1}, "10"]


def not_numbers(least, greatest):
    """Return values of every kind that are no integer from least to greatest."""
    return [value for value in ANY_KINDS if isinstance(value, bool) or not isinstance(value, int)] + [
        least - 1, greatest + 1, -greatest - 1, greatest * 1000 + 1, -LIMIT, LIMIT * LIMIT,
        (least,), [greatest], (least, greatest), str(greatest), {least: greatest},
    ]


NOT_MANY = not_numbers(0, LIMIT)


def all_heaps(many, total):
    """Return all tuples of so many heaps with that sum."""
    return [heaps for heaps in product(range(total + 1), repeat=many) if sum(heaps) == total]


def plain_step(heaps, one, other):
    """Return the heaps behind a step, None if it cannot be made."""
    if heaps[other] == 0 or heaps[one] < heaps[other]:
        return None
    stand = list(heaps)
    stand[one] = heaps[one] - heaps[other]
    stand[other] = heaps[other] + heaps[other]
    return tuple(stand)


def plain_steps(heaps):
    """Return {step: heaps behind it} of all steps that can be made."""
    found = {}
    for one in range(len(heaps)):
        for other in range(len(heaps)):
            if one != other and plain_step(heaps, one, other) is not None:
                found[(one, other)] = plain_step(heaps, one, other)
    return found


def plain_distances(heaps):
    """Return {heaps: least number of steps} of all that can come to be."""
    distances = {heaps: 0}
    waiting = [heaps]
    for stand in waiting:
        for onward in plain_steps(stand).values():
            if onward not in distances:
                distances[onward] = distances[stand] + 1
                waiting.append(onward)
    return distances


def plain_walk(heaps):
    """Return (standings, again): all of the walk, and the index of the one that follows the last, or None."""
    standings = [heaps]
    while 0 not in standings[-1]:
        a, b = standings[-1]
        following = (a - b, 2 * b) if a >= b else (2 * a, b - a)
        if following in standings:
            return standings, standings.index(following)
        standings.append(following)
    return standings, None


def failure(function, *arguments):
    """Return (class, fields) of the error that the call raises, None if it raises none."""
    try:
        function(*arguments)
    except errors.HeapError as error:
        fields = [getattr(error, name) for name in ("index", "line", "word") if hasattr(error, name)]
        return (error.__class__, *fields)
    return None


def changes_nothing(function, *arguments):
    """Tell whether the arguments look the same behind the call, whether or not it fails."""
    shown = repr(arguments)
    failure(function, *arguments)
    return repr(arguments) == shown
