"""All ascending heaps of one sum: which are the hardest ones, and which can come back."""

from heapsdouble.checks import is_integer
from heapsdouble.errors import BadMany, BadTotal
from heapsdouble.moves import all_behind
from heapsdouble.small import fewest

LEAST_MANY = 3
GREATEST_MANY = 4
GREATEST_TOTAL = 40


def hardest(many, total):
    """Return (greatest, list): the greatest number that fewest tells, and the heaps for which it does."""
    check_many_and_total(many, total)
    numbers = {heaps: fewest(heaps) for heaps in ascending_heaps(many, total, 1)}
    greatest = max(numbers.values())
    return (greatest, [heaps for heaps, number in numbers.items() if number == greatest])


def returning(many, total):
    """Return the ascending list of the heaps from which some steps lead back to them, in any order."""
    check_many_and_total(many, total)
    onward = {heaps: ascending_behind(heaps) for heaps in ascending_heaps(many, total, 1)}
    return [heaps for heaps in onward if leads_back(heaps, onward)]


def check_many_and_total(many, total):
    """Raise BadMany for another number of heaps than are looked at, BadTotal for a sum that they do not have."""
    if not is_integer(many, LEAST_MANY, GREATEST_MANY):
        raise BadMany()
    if not is_integer(total, many, GREATEST_TOTAL):
        raise BadTotal()


def ascending_heaps(many, total, least):
    """Return the ascending list of all ascending tuples of so many heaps with that sum, none below least."""
    if many == 1:
        return [(total,)]
    found = []
    for first in range(least, total // many + 1):
        for rest in ascending_heaps(many - 1, total - first, first):
            found.append((first, *rest))
    return found


def ascending_behind(heaps):
    """Return the heaps behind the steps that can be made, each in ascending order, none of them twice."""
    return sorted({tuple(sorted(stand)) for stand in all_behind(heaps)})


def leads_back(heaps, onward):
    """Tell whether one step or more lead from these heaps to them, where onward tells what one step leads to."""
    # What can come to be in any order does not hang on the order of the heaps before,
    # so it is enough to go on from each standing in ascending order.
    found = {}
    waiting = [heaps]
    while waiting:
        latest = waiting.pop()
        for stand in onward[latest]:
            # Heaps with an empty one are not in onward: from there no way leads back.
            if stand in onward and stand not in found:
                found[stand] = True
                waiting.append(stand)
    return heaps in found
