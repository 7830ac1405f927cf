"""Products, powers and shares of integers."""

from math import gcd


def product_over(numbers):
    """Return the product of a list or tuple of integers, 1 if there are none."""
    total = 1
    for number in numbers:
        total = total * number
    return total


def power_modulo(base, exponent, modulus):
    """Return the base to a power from 0 on, modulo a number above 1."""
    result = 1
    square = base % modulus
    while exponent > 0:
        if exponent % 2 == 1:
            result = result * square % modulus
        square = square * square % modulus
        exponent = exponent // 2
    return result


def inverse_modulo(number, prime):
    """Return what times the number leaves 1 modulo the prime, which does not divide it."""
    return power_modulo(number, prime - 2, prime)


def power_exact(base, exponent):
    """Return the base to a power from 0 on."""
    return product_over([base for _ in range(exponent)])


def lowest_terms(top, bottom):
    """Return the fraction of two numbers, the second not 0, without a common divisor above 1."""
    common = gcd(top, bottom)
    return (top // common, bottom // common)


def factors_told(primes, number):
    """Return the set of those of the primes whose product is the number, None if there is none."""
    found = tuple([prime for prime in primes if number % prime == 0])
    return found if product_over(found) == number else None


def subsets_of(primes):
    """Return the list of all sets of some of the ascending primes, as Python sorts."""
    subsets = [()]
    for prime in primes:
        subsets = subsets + [subset + (prime,) for subset in subsets]
    return sorted(subsets)
