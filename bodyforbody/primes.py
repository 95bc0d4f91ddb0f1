"""Primes that divide a number."""


def prime_factors(number):
    """The primes that divide a number from 1 on, ascending."""
    found = []
    left = number
    prime = 2
    while prime * prime <= left:
        if left % prime == 0:
            found.append(prime)
        while left % prime == 0:
            left = left // prime
        prime += 1
    if left > 1:
        found.append(left)
    return found
