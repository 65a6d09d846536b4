import itertools
import random
import unittest

from notnought.grids import somewhere, sure

from reference import (
    GridHanded,
    GridRefusals,
    all_small_cases,
    fitting_cases,
    grid_row,
    grids_of,
    is_sure,
    polynomial_row,
    some_cases,
    subsets_of,
    times_linear,
)


def asked(p, n, terms, numbers):
    return sure(p, n, polynomial_row(terms), grid_row(numbers))


class Answers(unittest.TestCase):
    def test_one_unknown(self):
        f = [3, 0, 1, 2]
        self.assertEqual(sure(5, 1, f, [1, 4]), [0])
        self.assertEqual(sure(5, 1, f, [2, 0, 4]), [0])
        self.assertEqual(sure(5, 1, f, [3, 0, 1, 4]), [1])
        self.assertEqual(sure(5, 1, f, [5, 0, 1, 2, 3, 4]), [1])

    def test_each_unknown_has_its_own_row(self):
        self.assertEqual(sure(7, 2, [1, 2, 1], [3, 1, 2, 4, 2, 0, 5]), [1])
        self.assertEqual(sure(7, 2, [1, 2, 1], [2, 0, 5, 3, 1, 2, 4]), [0])
        self.assertEqual(sure(5, 3, [3, 0, 1, 2], [1, 4, 2, 0, 3, 3, 0, 1, 2]), [1])
        self.assertEqual(sure(5, 3, [3, 2, 1, 0], [1, 4, 2, 0, 3, 3, 0, 1, 2]), [0])

    def test_any_term_of_the_degree_will_do(self):
        # x1 x2 + x1 x1
        f = [1, 1, 1, 1, 2, 0]
        self.assertEqual(sure(5, 2, f, [2, 0, 1, 2, 0, 1]), [1])
        self.assertEqual(sure(5, 2, f, [3, 0, 1, 2, 1, 0]), [1])
        self.assertEqual(sure(5, 2, f, [3, 0, 1, 2, 2, 0, 1]), [1])
        self.assertEqual(sure(5, 2, f, [2, 0, 1, 1, 0]), [0])
        self.assertEqual(sure(5, 2, f, [1, 0, 3, 0, 1, 2]), [0])

    def test_no_other_term_will_do(self):
        self.assertEqual(sure(5, 1, [1, 0, 1, 1, 1, 3], [2, 0, 1]), [0])
        self.assertEqual(sure(5, 2, [1, 0, 0, 1, 1, 1, 1, 3, 0], [3, 0, 1, 2, 3, 0, 1, 2]), [0])
        self.assertEqual(sure(5, 2, [1, 0, 0, 1, 1, 1, 1, 3, 0], [4, 0, 1, 2, 3, 3, 0, 1, 2]), [1])

    def test_room_for_the_degree_is_not_enough(self):
        self.assertEqual(sure(7, 2, [1, 3, 0], [2, 0, 1, 7, 0, 1, 2, 3, 4, 5, 6]), [0])
        self.assertEqual(sure(7, 2, [1, 0, 3], [2, 0, 1, 7, 0, 1, 2, 3, 4, 5, 6]), [1])

    def test_the_polynomial_is_taken_as_told_not_reduced(self):
        # Modulo 2 the square is the number itself, and not 0 at 1, but stands too often.
        self.assertEqual(sure(2, 1, [1, 2], [2, 0, 1]), [0])
        self.assertEqual(sure(2, 1, [1, 1, 1, 2], [2, 0, 1]), [0])
        self.assertEqual(sure(3, 1, [1, 3], [3, 0, 1, 2]), [0])

    def test_no_terms(self):
        for p, n in itertools.product((2, 3, 5, 7), (1, 2, 3)):
            self.assertEqual(sure(p, n, [], [1, p - 1] * n), [0])
            self.assertEqual(sure(p, n, [], grid_row([range(p)] * n)), [0])

    def test_a_constant(self):
        for p, n in itertools.product((2, 3, 5, 7), (1, 2, 3)):
            for factor in range(1, p):
                self.assertEqual(sure(p, n, [factor] + [0] * n, [1, p - 1] * n), [1])

    def test_a_grid_of_one_point(self):
        self.assertEqual(sure(7, 3, [5, 0, 0, 0], [1, 2, 1, 3, 1, 4]), [1])
        self.assertEqual(sure(7, 3, [2, 1, 1, 1], [1, 2, 1, 3, 1, 4]), [0])
        self.assertEqual(sure(7, 3, [5, 0, 0, 0, 1, 0, 0, 1], [1, 2, 1, 3, 1, 4]), [0])

    def test_all_numbers(self):
        for p, n in itertools.product((2, 3, 5, 7), (1, 2, 3)):
            g = grid_row([range(p)] * n)
            self.assertEqual(sure(p, n, [1] + [p - 1] * n, g), [1])
            for k in range(n):
                times = [p - 1] * n
                times[k] = p
                self.assertEqual(sure(p, n, [1] + times, g), [0])
            self.assertEqual(sure(p, n, [1] + [12] * n, g), [0])

    def test_a_grid_just_too_small_or_a_degree_just_too_high(self):
        for p, n in ((2, 1), (2, 2), (2, 3), (3, 1), (3, 2), (3, 3), (5, 1), (5, 2), (7, 1)):
            for g, numbers in grids_of(p, n).items():
                last = [len(row) - 1 for row in numbers]
                self.assertEqual(sure(p, n, [1] + last, list(g)), [1], (p, n, g))
                for k in range(n):
                    more = list(last)
                    more[k] += 1
                    self.assertEqual(sure(p, n, [1] + more, list(g)), [0], (p, n, g, k))

    def test_every_small_case(self):
        for p, n, terms, numbers in all_small_cases():
            answer = [int(is_sure(terms, numbers))]
            self.assertEqual(asked(p, n, terms, numbers), answer, (p, n, terms, numbers))

    def test_against_the_reference(self):
        for p, n, terms, numbers in some_cases(random.Random(7), 1000):
            answer = [int(is_sure(terms, numbers))]
            self.assertEqual(asked(p, n, terms, numbers), answer, (p, n, terms, numbers))

    def test_a_polynomial_of_400_numbers(self):
        all_times = sorted(itertools.product(range(13), repeat=3), key=lambda x: (sum(x), x))
        lowest = {times: 1 + k % 6 for k, times in enumerate(all_times[:100])}
        highest = {times: 1 + k % 6 for k, times in enumerate(all_times[-100:])}
        for terms, answer in ((lowest, [1]), (highest, [0])):
            self.assertEqual(len(polynomial_row(terms)), 400)
            self.assertEqual(asked(7, 3, terms, [range(7)] * 3), answer)


class WhatHolds(unittest.TestCase):
    """Where it's sure somewhere tells a point."""

    def test_every_small_case(self):
        seen = 0
        for p, n, terms, numbers in all_small_cases():
            if asked(p, n, terms, numbers) == [1]:
                told = somewhere(p, n, polynomial_row(terms), grid_row(numbers))
                self.assertEqual(told[0], n, (p, n, terms, numbers))
                seen += 1
        self.assertGreater(seen, 100)

    def test_a_term_of_the_degree_that_fits(self):
        for p, n, terms, numbers in fitting_cases(random.Random(8), 300):
            self.assertEqual(asked(p, n, terms, numbers), [1], (p, n, terms, numbers))
            told = somewhere(p, n, polynomial_row(terms), grid_row(numbers))
            self.assertEqual(told[0], n, (p, n, terms, numbers))

    def test_with_a_number_less_it_may_be_nought_on_all(self):
        for p in (2, 3, 5, 7):
            for numbers in subsets_of(p):
                terms = {(0,): 1}
                for number in numbers:
                    terms = times_linear(p, 1, terms, number)
                f = polynomial_row(terms)
                self.assertEqual(sure(p, 1, f, grid_row([numbers])), [0])
                self.assertEqual(somewhere(p, 1, f, grid_row([numbers])), [-33])
                for number in set(range(p)) - set(numbers):
                    larger = grid_row([sorted((*numbers, number))])
                    self.assertEqual(sure(p, 1, f, larger), [1])
                    self.assertEqual(somewhere(p, 1, f, larger), [1, number])


class Refusals(GridRefusals, unittest.TestCase):
    call = staticmethod(sure)


class Handed(GridHanded, unittest.TestCase):
    call = staticmethod(sure)

    def test_one_number(self):
        self.assertEqual({len(sure(*handed)) for handed in self.CALLS}, {1})


if __name__ == "__main__":
    unittest.main()
