"""Powers of two, and what is left of a number without them."""


def split_twos(number):
    """Return (odd, twos) with number == odd * 2 ** twos, of a number above 0."""
    odd = number
    twos = 0
    while odd % 2 == 0:
        odd //= 2
        twos += 1
    return (odd, twos)


def power_of_two(exponent, modulus):
    """Return the remainder of 2 ** exponent by modulus."""
    # By squaring: an exponent of thirty figures takes about a hundred rounds.
    power = 1 % modulus
    square = 2 % modulus
    left = exponent
    while left > 0:
        if left % 2 == 1:
            power = power * square % modulus
        square = square * square % modulus
        left //= 2
    return power


def order_of_two(odd):
    """Return the least exponent above 0 for which 2 ** exponent and 1 have the same remainder by odd."""
    start = 1 % odd
    power = 2 % odd
    order = 1
    while power != start:
        power = power * 2 % odd
        order += 1
    return order
