"""Roots of primes, and lays by their powers: promises 2, 3, 4, 5, 61, 62 and 63."""

import unittest

from tests.things import LONG_NUMBERS, NO_NUMBERS, ODD_THINGS, RefusalCase, like_tuples
from unlikesteps.errors import NoNumber, NoPrime, NoRoot
from unlikesteps.lays import is_full
from unlikesteps.powers import by_powers, by_two, roots

PRIMES = (2, 3, 5, 7, 11, 13)
ROOTS = {2: [1], 3: [2], 5: [2, 3], 7: [3, 5], 11: [2, 6, 7, 8], 13: [2, 6, 7, 11]}
PRIMES_AND_ROOTS = [(prime, root) for prime in PRIMES for root in ROOTS[prime]]

NO_PRIMES = NO_NUMBERS + ODD_THINGS + LONG_NUMBERS + [
    0, 1, 4, 6, 8, 9, 10, 12, 14, 15, 16, 17, 19, 23, -1, -2, -3, -13, [2], (3,), "5", {7: 7}, 2.0, 3.0, 13.0,
    10 ** 39 + 3,
]


def no_roots(prime):
    """Whole numbers about the prime that are no roots of it, among them such as have a root's rest."""
    return [number for number in range(-20, 40) if number not in ROOTS[prime]] + LONG_NUMBERS


def plain_power(prime, root, times):
    """The rest of the root taken so many times by itself, by multiplying."""
    product = 1
    for _ in range(times):
        product *= root
    return product % prime


class LayCase(RefusalCase):
    def is_full_and_unlike(self, lines, lay):
        self.assertIs(is_full((lines, lines), lay), True, lay)
        self.assertEqual(like_tuples(lay), [], lay)


class RootsTest(RefusalCase):
    def test_roots_of_each_prime(self):
        for prime in PRIMES:
            self.assertEqual(roots(prime), ROOTS[prime])

    def test_by_multiplying(self):
        for prime in PRIMES:
            found = [
                root for root in range(1, prime)
                if {plain_power(prime, root, times) for times in range(1, prime)} == set(range(1, prime))
            ]
            self.assertEqual(roots(prime), found)

    def test_told_lists_are_the_askers_own(self):
        for prime in PRIMES:
            self.told_anew(roots, prime)

    def test_no_prime(self):
        for thing in NO_PRIMES:
            self.refused(NoPrime, roots, thing)


class PowersTest(LayCase):
    def test_some_lays(self):
        self.assertEqual(by_powers(2, 1, 0), (0,))
        self.assertEqual(by_powers(3, 2, 0), (0, 1))
        self.assertEqual(by_powers(3, 2, 1), (1, 0))
        self.assertEqual(by_powers(5, 2, 0), (0, 1, 3, 2))
        self.assertEqual(by_powers(5, 2, 1), (1, 3, 2, 0))
        self.assertEqual(by_powers(7, 3, 2), (1, 5, 3, 4, 0, 2))

    def test_numbers_up_to_thirty(self):
        for prime, root in PRIMES_AND_ROOTS:
            for number in range(31):
                told = by_powers(prime, root, number)
                found = tuple(plain_power(prime, root, number + line) - 1 for line in range(prime - 1))
                self.assertEqual(told, found, (prime, root, number))
                self.is_full_and_unlike(prime - 1, told)

    def test_long_numbers(self):
        for prime, root in PRIMES_AND_ROOTS:
            for number in LONG_NUMBERS:
                told = by_powers(prime, root, number)
                self.assertEqual(told, by_powers(prime, root, number % (prime - 1)), (prime, root, number))
                self.assertEqual(told, tuple(pow(root, number + line, prime) - 1 for line in range(prime - 1)))
                self.is_full_and_unlike(prime - 1, told)

    def test_no_prime(self):
        for thing in NO_PRIMES:
            for root in (1, 2, 0, None):
                for number in (0, -1, None):
                    self.refused(NoPrime, by_powers, thing, root, number)

    def test_no_root(self):
        for prime in PRIMES:
            for thing in no_roots(prime) + NO_NUMBERS:
                for number in (0, -1, None):
                    self.refused(NoRoot, by_powers, prime, thing, number)

    def test_no_number(self):
        for prime, root in PRIMES_AND_ROOTS:
            for thing in NO_NUMBERS + [-1, -2, -12, *[-number for number in LONG_NUMBERS]]:
                self.refused(NoNumber, by_powers, prime, root, thing)


class TwoRootsTest(LayCase):
    def test_some_lays(self):
        self.assertEqual(by_two(3, 2, 2), (0,))
        self.assertEqual(by_two(5, 2, 2), (1, 0, 2))
        self.assertEqual(by_two(5, 2, 3), (1, 2, 0))
        self.assertEqual(by_two(5, 3, 2), (2, 0, 1))
        self.assertEqual(by_two(7, 3, 5), (0, 2, 3, 1, 4))

    def test_each_two_roots(self):
        for prime in PRIMES[1:]:
            for root in ROOTS[prime]:
                for other in ROOTS[prime]:
                    told = by_two(prime, root, other)
                    found = [
                        (line, row) for line in range(prime - 2) for row in range(prime - 2)
                        if (plain_power(prime, root, line + 1) + plain_power(prime, other, row + 1)) % prime == 1
                    ]
                    self.assertEqual(list(enumerate(told)), found, (prime, root, other))
                    self.is_full_and_unlike(prime - 2, told)

    def test_no_prime(self):
        for thing in NO_PRIMES + [2]:
            for root in (1, 2, 0, None):
                for other in (1, 2, 0, None):
                    self.refused(NoPrime, by_two, thing, root, other)

    def test_no_root(self):
        for prime in PRIMES[1:]:
            root = ROOTS[prime][-1]
            for thing in no_roots(prime) + NO_NUMBERS:
                self.refused(NoRoot, by_two, prime, thing, root)
                self.refused(NoRoot, by_two, prime, root, thing)
                self.refused(NoRoot, by_two, prime, thing, thing)


if __name__ == "__main__":
    unittest.main()
