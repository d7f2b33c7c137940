"""Plans behind which some heaps are empty: one of three, all but two, all but one."""

from itertools import combinations

from heapsdouble.arithmetic import reduced_parts
from heapsdouble.checks import check_heaps
from heapsdouble.errors import BadHeaps
from heapsdouble.moves import behind, behind_all


def odd_part(heaps):
    """Return the greatest odd divisor of the sum, divided by the common divisor of the heaps."""
    check_heaps(heaps)
    odd, _ = reduced_parts(heaps)
    return odd


def empty_plan(heaps):
    """Return a plan behind which at least one of three or more heaps is empty."""
    check_heaps(heaps)
    if len(heaps) < 3:
        raise BadHeaps()
    if 0 in heaps:
        return ()
    return tuple(shortest_emptying(heaps))


def pair_plan(heaps):
    """Return a plan behind which at most two heaps are not empty."""
    check_heaps(heaps)
    return tuple(emptying_to_pair(heaps))


def one_plan(heaps):
    """Return a plan behind which only one heap is not empty, None if there is none."""
    if odd_part(heaps) > 1:
        return None
    plan = emptying_to_pair(heaps)
    plan.extend(walk_of_pair(behind_all(heaps, plan)))
    return tuple(plan)


def filled(heaps):
    """Return the ascending list of the places where a heap is not empty."""
    return [place for place, heap in enumerate(heaps) if heap > 0]


def emptying_to_pair(heaps):
    """Return steps behind which at most two heaps are not empty."""
    plan = []
    stand = heaps
    while len(filled(stand)) > 2:
        turn = shortest_emptying(stand)
        plan.extend(turn)
        stand = behind_all(stand, turn)
    return plan


def walk_of_pair(heaps):
    """Return the walk of the two heaps that are not empty, of which it is known that it ends."""
    plan = []
    stand = heaps
    places = filled(stand)
    while len(places) > 1:
        one, other = places
        step = (one, other) if stand[one] >= stand[other] else (other, one)
        plan.append(step)
        stand = behind(stand, step)
        places = filled(stand)
    return plan


def shortest_emptying(heaps):
    """Return the fewest steps by which some three heaps that are not empty empty one of them."""
    # Four emptyings of heaps that are unlucky ones could need more steps than a plan
    # may have; that all choices of three heaps are unlucky ones is not to be expected.
    places = filled(heaps)
    return min([emptying(heaps, trio) for trio in combinations(places, 3)], key=len)


def emptying(heaps, trio):
    """Return steps among the heaps at three places behind which one of these is empty."""
    plan = []
    stand = heaps
    while all([stand[place] > 0 for place in trio]):
        turn = halving(stand, trio)
        plan.extend(turn)
        stand = behind_all(stand, turn)
    return plan


def halving(heaps, trio):
    """Return steps behind which the least of three heaps is at most half of the least one now."""
    low, middle, high = by_size(heaps, trio)
    multiple = nearest_multiple(heaps[middle], heaps[low])
    turn = []
    figures = multiple
    # The low heap is doubled for each figure, so that the middle one gives it the multiple in all.
    while figures > 1:
        turn.append((middle if figures % 2 == 1 else high, low))
        figures //= 2
    # Where the multiple is above the middle heap, that one falls short of the last figure:
    # then the low heap doubles what is left of it, and keeps by how much it falls short.
    short = multiple * heaps[low] > heaps[middle]
    turn.append((low, middle) if short else (middle, low))
    return turn


def by_size(heaps, trio):
    """Return the three places, that of the least heap first."""
    sized = sorted([(heaps[place], place) for place in trio])
    return [place for heap, place in sized]


def nearest_multiple(number, unit):
    """Return which multiple of unit is nearest to number, the lower one of two."""
    return (2 * number + unit - 1) // (2 * unit)
