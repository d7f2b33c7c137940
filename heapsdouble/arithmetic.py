"""Powers of two, divisors, and what is left of a number without them."""

from math import gcd


def split_twos(number):
    """Return (odd, twos) with number == odd * 2 ** twos, of a number above 0."""
    odd = number
    twos = 0
    while odd % 2 == 0:
        odd //= 2
        twos += 1
    return (odd, twos)


def reduced_parts(numbers):
    """Return (odd, twos) of the sum of numbers that are not all 0, divided by their greatest common divisor."""
    divisor = 0
    for number in numbers:
        divisor = gcd(divisor, number)
    return split_twos(sum(numbers) // divisor)


def power_of_two(exponent, modulus):
    """Return the remainder of 2 ** exponent by modulus."""
    # By squaring: an exponent of thirty figures takes about a hundred rounds.
    power = 1 % modulus
    square = 2 % modulus
    left = exponent
    while left > 0:
        if left % 2 == 1:
            power = power * square % modulus
        square = square * square % modulus
        left //= 2
    return power


def order_of_two(odd):
    """Return the least exponent above 0 for which 2 ** exponent and 1 have the same remainder by odd."""
    start = 1 % odd
    power = 2 % odd
    order = 1
    while power != start:
        power = power * 2 % odd
        order += 1
    return order


def odd_divisors(odd):
    """Return the ascending list of the divisors above 1 of an odd number."""
    return [number for number in range(3, odd + 1, 2) if odd % number == 0]


def totient(number):
    """Return how many of the integers from 1 to number have no divisor above 1 in common with it."""
    free = number
    left = number
    factor = 2
    while left > 1:
        if factor * factor > left:
            # No smaller factor is left, so this is a prime one, and the last.
            factor = left
        if left % factor == 0:
            free -= free // factor
        while left % factor == 0:
            left //= factor
        factor += 1
    return free
