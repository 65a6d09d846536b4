import itertools
import unittest

from notnought.grids import sums

from reference import BAD_PRIMES, BAD_SETS, LARGEST, REFUSED, AnyHanded, SetRefusals, subsets_of, sum_set

PRIMES = (2, 3, 5, 7)


def pairs_of_sets():
    """p and every two sets of numbers below it."""
    for p in PRIMES:
        for a, b in itertools.product(subsets_of(p), repeat=2):
            yield p, list(a), list(b)


class Answers(unittest.TestCase):
    def test_two_sets(self):
        self.assertEqual(sums(7, [1, 2], [0, 3]), [4, 1, 2, 4, 5])
        self.assertEqual(sums(7, [0, 1, 2], [0, 1]), [4, 0, 1, 2, 3])
        self.assertEqual(sums(5, [0, 2], [1, 4]), [3, 1, 3, 4])

    def test_sums_are_reckoned_modulo_p(self):
        self.assertEqual(sums(7, [5, 6], [1, 6]), [4, 0, 4, 5, 6])
        self.assertEqual(sums(5, [4], [1, 2]), [2, 0, 1])

    def test_they_rise_whatever_the_order_they_come_in(self):
        self.assertEqual(sums(7, [3, 5], [1, 4]), [4, 0, 2, 4, 6])
        self.assertEqual(sums(7, [1, 4], [3, 5]), [4, 0, 2, 4, 6])

    def test_two_sets_of_one(self):
        for p in PRIMES:
            for first, second in itertools.product(range(p), repeat=2):
                self.assertEqual(sums(p, [first], [second]), [1, (first + second) % p])

    def test_a_set_of_one_shifts_the_other(self):
        self.assertEqual(sums(7, [3], [0, 1, 5]), [3, 1, 3, 4])
        self.assertEqual(sums(7, [0, 1, 5], [3]), [3, 1, 3, 4])
        self.assertEqual(sums(7, [0, 1, 5], [0]), [3, 0, 1, 5])

    def test_two_sets_that_are_alike(self):
        self.assertEqual(sums(7, [1, 2], [1, 2]), [3, 2, 3, 4])
        self.assertEqual(sums(7, [0, 1, 3], [0, 1, 3]), [6, 0, 1, 2, 3, 4, 6])
        self.assertEqual(sums(5, [3], [3]), [1, 1])

    def test_all_numbers(self):
        for p in PRIMES:
            every = list(range(p))
            for chosen in subsets_of(p):
                self.assertEqual(sums(p, every, list(chosen)), [p] + every)
                self.assertEqual(sums(p, list(chosen), every), [p] + every)

    def test_sets_that_together_give_all_numbers(self):
        self.assertEqual(sums(2, [0, 1], [1]), [2, 0, 1])
        self.assertEqual(sums(3, [0, 1], [0, 1]), [3, 0, 1, 2])
        self.assertEqual(sums(7, [0, 1, 2, 3], [0, 1, 2, 3]), [7, 0, 1, 2, 3, 4, 5, 6])
        self.assertEqual(sums(7, [0, 1, 2], [0, 3, 6]), [7, 0, 1, 2, 3, 4, 5, 6])

    def test_every_two_sets(self):
        for p, a, b in pairs_of_sets():
            found = sum_set(p, a, b)
            self.assertEqual(sums(p, a, b), [len(found)] + found, (p, a, b))


class WhatHolds(unittest.TestCase):
    def test_as_many_as_both_sets_have_less_one_or_all(self):
        for p, a, b in pairs_of_sets():
            answer = sums(p, a, b)
            self.assertGreaterEqual(answer[0], min(p, len(a) + len(b) - 1), (p, a, b))
            self.assertEqual(len(answer), 1 + answer[0], (p, a, b))

    def test_no_more_than_that_of_numbers_in_a_run(self):
        for p in PRIMES:
            for first, second in itertools.product(range(1, p + 1), repeat=2):
                least = min(p, first + second - 1)
                answer = sums(p, list(range(first)), list(range(second)))
                self.assertEqual(answer, [least] + list(range(least)))


class RefusalsOfA(SetRefusals, unittest.TestCase):
    def ask(self, p, row):
        return sums(p, row, [0, 1])


class RefusalsOfB(SetRefusals, unittest.TestCase):
    def ask(self, p, row):
        return sums(p, [0, 1], row)


class RefusalsOfSeveral(unittest.TestCase):
    def test_both_sets(self):
        for first, second in itertools.product(BAD_SETS.values(), repeat=2):
            self.assertEqual(sums(5, first, second), REFUSED, (first, second))

    def test_several_at_once(self):
        rights = [[0], [0, 1]]
        wrongs = [[], [1, 0], [1, 1], [LARGEST] * 400]
        for p in (5, *BAD_PRIMES):
            for a, b in itertools.product(rights + wrongs, repeat=2):
                right = p == 5 and a in rights and b in rights
                self.assertEqual(sums(p, a, b) != REFUSED, right, (p, a, b))

    def test_a_set_for_another_prime(self):
        self.assertEqual(sums(7, [5], [6]), [1, 4])
        self.assertEqual(sums(5, [5], [4]), REFUSED)
        self.assertEqual(sums(5, [4], [6]), REFUSED)


class Handed(AnyHanded, unittest.TestCase):
    call = staticmethod(sums)
    CALLS = (
        (7, [3, 5], [1, 4]),
        (7, [0, 1, 2, 3], [0, 1, 2, 3]),
        (2, [1], [0]),
        (5, [3, 1], [0]),
        (5, [0], [3, 1]),
        (5, [2, 2], [0]),
        (5, [], [0]),
        (5, [0], []),
        (6, [0, 1], [2]),
        (5, [0], [5]),
        (LARGEST, [LARGEST] * 400, [LARGEST] * 400),
    )


if __name__ == "__main__":
    unittest.main()
