"""Products and powers of integers."""


def product_over(numbers):
    """Return the product of a list or tuple of integers, 1 if there are none."""
    total = 1
    for number in numbers:
        total = total * number
    return total


def power_modulo(base, exponent, modulus):
    """Return the base to a power from 0 on, modulo a number above 1."""
    result = 1
    square = base % modulus
    while exponent > 0:
        if exponent % 2 == 1:
            result = result * square % modulus
        square = square * square % modulus
        exponent = exponent // 2
    return result


def inverse_modulo(number, prime):
    """Return what times the number leaves 1 modulo the prime, which does not divide it."""
    return power_modulo(number, prime - 2, prime)


def subsets_of(primes):
    """Return the list of all sets of some of the ascending primes, as Python sorts."""
    subsets = [()]
    for prime in primes:
        subsets = subsets + [subset + (prime,) for subset in subsets]
    return sorted(subsets)
