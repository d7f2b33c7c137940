"""The walk of two heaps."""

from heapsdouble.arithmetic import order_of_two, power_of_two, reduced_parts
from heapsdouble.checks import GREATEST, check_heaps, is_integer
from heapsdouble.errors import BadHeaps, BadMany, TooGreat

GREATEST_SUM = 10 ** 6


def check_two(heaps):
    """Raise BadHeaps for what is not two heaps."""
    check_heaps(heaps)
    if len(heaps) != 2:
        raise BadHeaps()


def after(heaps, many):
    """Return the two heaps behind so many steps, or where the walk ended earlier."""
    check_two(heaps)
    if not is_integer(many, 0, GREATEST):
        raise BadMany()
    if 0 in heaps:
        return heaps
    total = sum(heaps)
    end = ends_after(heaps)
    if end is not None and many >= end:
        # The last step is made from equal heaps, and of these the first one gives.
        return (0, total)
    factor = power_of_two(many, total)
    return tuple([heap * factor % total for heap in heaps])


def ends_after(heaps):
    """Return the number of steps behind which one heap is empty, None if that never is."""
    check_two(heaps)
    odd, twos = reduced_parts(heaps)
    return twos if odd == 1 else None


def tail_and_ring(heaps):
    """Return how many steps lead to the first heaps that come again, and how many from there back."""
    check_two(heaps)
    if sum(heaps) > GREATEST_SUM:
        raise TooGreat()
    odd, twos = reduced_parts(heaps)
    # Behind k steps a heap is a multiple of 2 ** k by a modulus to which it is prime:
    # its even part is used up in the tail, and then the powers of 2 by its odd part come round.
    return (twos, 0 if odd == 1 else order_of_two(odd))
