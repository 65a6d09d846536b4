import unittest

from notnought.grids import apart, sums

from reference import LARGEST, AnyHanded, SetRefusals, apart_set, subsets_of

PRIMES = (2, 3, 5, 7)


def all_sets():
    """p and every set of numbers below it."""
    for p in PRIMES:
        for a in subsets_of(p):
            yield p, list(a)


class Answers(unittest.TestCase):
    def test_a_set(self):
        self.assertEqual(apart(7, [0, 1, 3]), [3, 1, 3, 4])
        self.assertEqual(apart(7, [1, 2, 4]), [3, 3, 5, 6])
        self.assertEqual(apart(5, [0, 1, 2]), [3, 1, 2, 3])

    def test_sums_are_reckoned_modulo_p_and_rise(self):
        self.assertEqual(apart(7, [4, 5, 6]), [3, 2, 3, 4])
        self.assertEqual(apart(5, [1, 3, 4]), [3, 0, 2, 4])

    def test_a_number_with_itself_does_not_count(self):
        # 0 + 0 and 3 + 3 aren't among them, but 1 + 1 comes from 0 + 2 too.
        self.assertEqual(apart(7, [0, 3]), [1, 3])
        self.assertEqual(apart(7, [0, 1, 2]), [3, 1, 2, 3])

    def test_a_set_of_one(self):
        for p in PRIMES:
            for number in range(p):
                self.assertEqual(apart(p, [number]), [0])

    def test_two(self):
        for p in PRIMES:
            for second in range(p):
                for first in range(second):
                    self.assertEqual(apart(p, [first, second]), [1, (first + second) % p])

    def test_two_pairs_whose_sums_are_alike(self):
        # 0 + 3 is 1 + 2, and 1 + 6 is 2 + 5 modulo 7.
        self.assertEqual(apart(7, [0, 1, 2, 3]), [5, 1, 2, 3, 4, 5])
        self.assertEqual(apart(7, [1, 2, 5, 6]), [5, 0, 1, 3, 4, 6])

    def test_all_numbers(self):
        self.assertEqual(apart(2, [0, 1]), [1, 1])
        for p in (3, 5, 7):
            every = list(range(p))
            self.assertEqual(apart(p, every), [p] + every)

    def test_every_set(self):
        for p, a in all_sets():
            found = apart_set(p, a)
            self.assertEqual(apart(p, a), [len(found)] + found, (p, a))


class WhatHolds(unittest.TestCase):
    def test_as_many_as_twice_the_set_less_three_or_all(self):
        for p, a in all_sets():
            answer = apart(p, a)
            self.assertGreaterEqual(answer[0], min(p, 2 * len(a) - 3), (p, a))
            self.assertEqual(len(answer), 1 + answer[0], (p, a))

    def test_no_more_than_that_of_numbers_in_a_run(self):
        for p in PRIMES:
            for size in range(2, p + 1):
                self.assertEqual(apart(p, list(range(size)))[0], min(p, 2 * size - 3))

    def test_with_the_doubles_they_are_the_sums_of_the_set_with_itself(self):
        for p, a in all_sets():
            doubles = {2 * number % p for number in a}
            self.assertEqual(sorted(doubles | set(apart(p, a)[1:])), sums(p, a, a)[1:], (p, a))


class Refusals(SetRefusals, unittest.TestCase):
    def ask(self, p, row):
        return apart(p, row)


class Handed(AnyHanded, unittest.TestCase):
    call = staticmethod(apart)
    CALLS = (
        (7, [4, 5, 6]),
        (7, [0, 1, 2, 3, 4, 5, 6]),
        (5, [2, 3]),
        (2, [1]),
        (5, [3, 1]),
        (5, [2, 2]),
        (5, []),
        (6, [0, 1]),
        (5, [0, 5]),
        (LARGEST, [LARGEST] * 400),
    )


if __name__ == "__main__":
    unittest.main()
