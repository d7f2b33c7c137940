"""All that can come to be of small heaps: what, how soon, and in how many ways."""

from heapsdouble.checks import check_heaps, is_integer
from heapsdouble.errors import BadMany, TooGreat
from heapsdouble.moves import all_behind, behind, steps_from

MOST_SMALL_HEAPS = 4
GREATEST_SMALL_SUM = 40
MOST_STEPS = 10


def reachable(heaps):
    """Return the ascending list of all heaps that can come to be, these among them."""
    check_small(heaps)
    return sorted([stand for front in fronts(heaps) for stand in front])


def fewest(heaps):
    """Return the least number of steps behind which a heap is empty, None if none can be."""
    check_small(heaps)
    for many, front in enumerate(fronts(heaps)):
        if any([0 in stand for stand in front]):
            return many
    return None


def way(heaps, aim):
    """Return a plan with the fewest steps behind which the heaps are aim, None if there is none."""
    check_small(heaps)
    check_small(aim)
    known = {}
    for front in fronts(heaps):
        for stand, origin in front.items():
            known[stand] = origin
        if aim in front:
            return plan_to(aim, known)
    return None


def many_ways(heaps, aim, steps):
    """Return the number of plans with so many steps behind which the heaps are aim."""
    check_small(heaps)
    check_small(aim)
    if not is_integer(steps, 0, MOST_STEPS):
        raise BadMany()
    ways = {heaps: 1}
    for _ in range(steps):
        ways = ways_behind(ways)
    return ways.get(aim, 0)


def check_small(heaps):
    """Raise BadHeaps for what is no heaps, TooGreat for heaps that are not small."""
    check_heaps(heaps)
    if len(heaps) > MOST_SMALL_HEAPS or sum(heaps) > GREATEST_SMALL_SUM:
        raise TooGreat()


def fronts(heaps):
    """Yield dicts of all heaps that take 0 steps, 1 step and so on at the least, as origins tells them."""
    found = {heaps: True}
    front = {heaps: None}
    while front:
        yield front
        onward = origins(front)
        front = {stand: onward[stand] for stand in onward if stand not in found}
        for stand in front:
            found[stand] = True


def origins(front):
    """Return {heaps: (earlier, step)} of all heaps that are one step behind some of the front."""
    found = {}
    for earlier in front:
        for step in steps_from(earlier):
            found[behind(earlier, step)] = (earlier, step)
    return found


def plan_to(aim, known):
    """Return the plan that leads to aim, from {heaps: (earlier, step)} with None where it begins."""
    plan = []
    origin = known[aim]
    while origin is not None:
        earlier, step = origin
        plan.append(step)
        origin = known[earlier]
    plan.reverse()
    return tuple(plan)


def ways_behind(ways):
    """Return {heaps: number of plans that lead there} one step behind the same dict."""
    onward = {}
    for heaps, many in ways.items():
        for stand in all_behind(heaps):
            onward[stand] = onward.get(stand, 0) + many
    return onward
