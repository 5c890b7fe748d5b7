"""Lays made by the powers of roots of a prime."""

from unlikesteps.errors import NoNumber, NoPrime, NoRoot
from unlikesteps.lays import is_whole, is_whole_within

LEAST_PRIME = 2
GREATEST_PRIME = 13


def is_prime(thing):
    """Tell of anything whether it is a prime of those let."""
    return is_whole_within(thing, LEAST_PRIME, GREATEST_PRIME) and 0 not in [thing % by for by in range(2, thing)]


def need_prime(prime, least):
    """Refuse what is no prime from the least one on."""
    if not is_prime(prime) or prime < least:
        raise NoPrime(f"a prime from {least} to {GREATEST_PRIME} is asked for")


def power_rests(prime, root):
    """Tell the rests by the prime of the root's powers, from the first on, one fewer than the prime."""
    rests = []
    rest = 1
    for power in range(1, prime):
        rest = rest * root % prime
        rests.append(rest)
    return rests


def is_root(prime, thing):
    """Tell of anything whether it is a root of the prime."""
    return is_whole_within(thing, 1, prime - 1) and sorted(power_rests(prime, thing)) == list(range(1, prime))


def need_root(prime, root):
    """Refuse what is no root of the prime."""
    if not is_root(prime, root):
        raise NoRoot(f"a root of the prime {prime} is asked for")


def roots(prime):
    """Tell the rising list of the roots of the prime."""
    need_prime(prime, LEAST_PRIME)
    return [root for root in range(1, prime) if is_root(prime, root)]


def by_powers(prime, root, number):
    """Tell the lay by powers of the root, the power of that number in line 0."""
    need_prime(prime, LEAST_PRIME)
    need_root(prime, root)
    if not is_whole(number) or number < 0:
        raise NoNumber("a whole number from 0 on is asked for")
    rests = power_rests(prime, root)
    # The rests come round after all of them, so the power 0 has the rest of the last one, which is 1.
    return tuple([rests[(number + line - 1) % len(rests)] - 1 for line in range(len(rests))])


def by_two(prime, root, other):
    """Tell the lay by two roots of a prime: in each line the power of the other that makes 1 with that of the root."""
    need_prime(prime, LEAST_PRIME + 1)
    need_root(prime, root)
    need_root(prime, other)
    others = power_rests(prime, other)
    # The last power has the rest 1, with which only 0 makes 1: no power's rest.
    return tuple([others.index((1 - rest) % prime) for rest in power_rests(prime, root)[:-1]])
