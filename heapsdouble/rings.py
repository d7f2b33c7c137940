"""All walks of two heaps of one sum, counted by rings, tails and ends."""

from heapsdouble.arithmetic import odd_divisors, order_of_two, split_twos, totient
from heapsdouble.checks import is_integer
from heapsdouble.errors import BadTotal

LEAST_TOTAL = 2
GREATEST_TOTAL = 10 ** 6

# The first heap x of a standing tells its walk. Let n be total, divided by the greatest
# common divisor of x and total: how often 2 divides n is the tail (or the end, where
# nothing but 2 does), and the odd part of n tells the length of the ring. So many x
# have the same n as its totient tells, and so do all standings of one ring.


def rings(total):
    """Return the ascending list of (length, many): how many rings of so many standings there are."""
    check_total(total)
    odd, _ = split_twos(total)
    counts = {}
    for divisor in odd_divisors(odd):
        length = order_of_two(divisor)
        counts[length] = counts.get(length, 0) + totient(divisor) // length
    return sorted(counts.items())


def tails(total):
    """Return the ascending list of (tail, many): how many standings have such a tail before their ring."""
    check_total(total)
    odd, twos = split_twos(total)
    if odd == 1:
        return []
    return [(tail, (odd - 1) * share) for tail, share in enumerate(even_shares(twos))]


def ending(total):
    """Return the ascending list of (steps, many): how many standings have walks that end so."""
    check_total(total)
    _, twos = split_twos(total)
    return [(steps, share) for steps, share in enumerate(even_shares(twos)) if steps > 0]


def check_total(total):
    """Raise BadTotal for what is no sum of which all standings are counted."""
    if not is_integer(total, LEAST_TOTAL, GREATEST_TOTAL):
        raise BadTotal()


def even_shares(twos):
    """Return [1, 1, 2, 4, ..]: the totients of 2 ** 0 to 2 ** twos."""
    shares = [1]
    for _ in range(twos):
        # Those below 2 ** k add up to half of it, and the other half is its own one.
        shares.append(sum(shares))
    return shares
