import itertools
import random
import unittest

from notnought.grids import coefficient, summed

from reference import (
    GridHanded,
    GridRefusals,
    all_small_cases,
    degree,
    division_sum,
    grid_row,
    grids_of,
    polynomial_row,
    room,
    some_cases,
    some_numbers,
    some_terms,
    subsets_of,
    symmetric_sum,
    times_linear,
)


def asked(p, n, terms, numbers):
    return summed(p, n, polynomial_row(terms), grid_row(numbers))


def last_factor(p, n, terms, numbers):
    """What coefficient answers of the term with each unknown one time less than the grid has numbers."""
    return coefficient(p, n, polynomial_row(terms), [len(row) - 1 for row in numbers])


class Answers(unittest.TestCase):
    def test_one_unknown(self):
        # 2x + 3 modulo 5 is 0 at 1 and 4 at 3; the weights there are 1 - 3 and 3 - 1.
        self.assertEqual(summed(5, 1, [3, 0, 2, 1], [2, 1, 3]), [2, 1])
        self.assertEqual(summed(5, 1, [3, 0], [2, 1, 3]), [0, 1])
        # The square is 1 and 4 there: 1 divided by 3 is 2, 4 divided by 2 is 2.
        self.assertEqual(summed(5, 1, [1, 2], [2, 1, 3]), [4, 0])

    def test_a_number_less_another_is_reckoned_modulo_p(self):
        # The weights of 0 and 1 are -1 and 1, so that a constant comes to 0.
        for p in (2, 3, 5, 7):
            for factor in range(1, p):
                self.assertEqual(summed(p, 1, [factor, 0], [2, 0, 1]), [0, 1])
                self.assertEqual(summed(p, 1, [factor, 1], [2, 0, 1]), [factor, 1])

    def test_two_unknowns(self):
        g = [3, 1, 2, 4, 2, 0, 5]
        self.assertEqual(summed(7, 2, [4, 2, 1], g), [4, 1])
        self.assertEqual(summed(7, 2, [2, 0, 0, 3, 1, 1], g), [0, 1])
        self.assertEqual(summed(7, 2, [4, 2, 1, 1, 3, 0], g), [4, 1])
        self.assertEqual(summed(7, 2, [4, 1, 2], g), [0, 1])

    def test_each_unknown_has_its_own_row(self):
        self.assertEqual(summed(7, 2, [1, 2, 1], [3, 1, 2, 4, 2, 0, 5]), [1, 1])
        self.assertEqual(summed(7, 2, [1, 2, 1], [2, 0, 5, 3, 1, 2, 4]), [0, 1])
        self.assertEqual(summed(5, 3, [3, 0, 1, 2], [1, 4, 2, 0, 3, 3, 0, 1, 2]), [3, 1])
        self.assertEqual(summed(5, 3, [3, 2, 1, 0], [1, 4, 2, 0, 3, 3, 0, 1, 2]), [0, 1])

    def test_the_second_number_looks_at_the_degree_alone(self):
        # x2 three times doesn't fit into its row, but the degree is 3 and the grid allows for 3.
        self.assertEqual(summed(7, 2, [1, 0, 3], [3, 1, 2, 4, 2, 0, 5]), [0, 1])
        self.assertEqual(summed(7, 2, [1, 0, 4], [3, 1, 2, 4, 2, 0, 5]), [0, 0])

    def test_the_degree_is_of_the_polynomial_as_told_not_reduced(self):
        # Modulo 3 the cube is the number itself at each point, but its degree is 3.
        self.assertEqual(summed(3, 1, [1, 1], [2, 0, 1]), [1, 1])
        self.assertEqual(summed(3, 1, [1, 3], [2, 0, 1]), [1, 0])
        self.assertEqual(summed(3, 1, [1, 3], [3, 0, 1, 2]), [0, 0])

    def test_no_terms(self):
        for p, n in itertools.product((2, 3, 5, 7), (1, 2, 3)):
            self.assertEqual(summed(p, n, [], [1, p - 1] * n), [0, 1])
            self.assertEqual(summed(p, n, [], grid_row([range(p)] * n)), [0, 1])

    def test_a_grid_of_one_point(self):
        self.assertEqual(summed(7, 3, [5, 0, 0, 0], [1, 2, 1, 3, 1, 4]), [5, 1])
        self.assertEqual(summed(7, 3, [2, 1, 1, 1], [1, 2, 1, 3, 1, 4]), [6, 0])
        self.assertEqual(summed(7, 3, [2, 1, 1, 1], [1, 2, 1, 0, 1, 4]), [0, 0])
        self.assertEqual(summed(7, 3, [3, 0, 0, 0, 1, 0, 0, 1], [1, 2, 1, 3, 1, 4]), [0, 0])
        for p in (2, 3, 5, 7):
            for number in range(p):
                self.assertEqual(summed(p, 1, [1, 1], [1, number]), [number, 0])

    def test_all_numbers(self):
        for p, n in itertools.product((2, 3, 5, 7), (1, 2, 3)):
            g = grid_row([range(p)] * n)
            self.assertEqual(summed(p, n, [p - 1] + [p - 1] * n, g), [p - 1, 1])
            self.assertEqual(summed(p, n, [1] + [0] * n, g), [0, 1])
            # Twice as often is 1 at the same points, but of too high a degree.
            if 2 * (p - 1) <= 12:
                self.assertEqual(summed(p, n, [1] + [2 * (p - 1)] * n, g), [1, 0])
        for p in (2, 3, 5, 7):
            self.assertEqual(summed(p, 1, [p - 1, 1, 1, p], grid_row([range(p)])), [0, 0])

    def test_a_grid_that_is_just_too_small(self):
        # x1 x2 - 1 modulo 5
        f = [4, 0, 0, 1, 1, 1]
        self.assertEqual(summed(5, 2, f, [2, 1, 2, 2, 1, 3]), [1, 1])
        self.assertEqual(summed(5, 2, f, [2, 1, 2, 1, 3]), [3, 0])
        self.assertEqual(summed(5, 2, f, [1, 2, 2, 1, 3]), [2, 0])
        self.assertEqual(summed(5, 2, f, [1, 2, 1, 3]), [0, 0])

    def test_nought_on_all_of_the_grid(self):
        for p in (2, 3, 5, 7):
            for numbers in subsets_of(p):
                terms = {(0,): 1}
                for number in numbers:
                    terms = times_linear(p, 1, terms, number)
                self.assertEqual(asked(p, 1, terms, [numbers]), [0, 0], (p, numbers))

    def test_a_degree_that_is_just_too_high(self):
        for p, n in ((2, 1), (2, 2), (2, 3), (3, 1), (3, 2), (3, 3), (5, 1), (5, 2), (7, 1)):
            for g, numbers in grids_of(p, n).items():
                last = [len(row) - 1 for row in numbers]
                self.assertEqual(summed(p, n, [1] + last, list(g)), [1, 1], (p, n, g))
                for k in range(n):
                    more = list(last)
                    more[k] += 1
                    # Of one time more it's the sum of that row's numbers.
                    answer = [sum(numbers[k]) % p, 0]
                    self.assertEqual(summed(p, n, [1] + more, list(g)), answer, (p, n, g, k))

    def test_every_small_case(self):
        for p, n, terms, numbers in all_small_cases():
            answer = [division_sum(p, terms, numbers), int(degree(terms) <= room(numbers))]
            self.assertEqual(asked(p, n, terms, numbers), answer, (p, n, terms, numbers))

    def test_against_the_reference(self):
        for p, n, terms, numbers in some_cases(random.Random(5), 500):
            answer = [division_sum(p, terms, numbers), int(degree(terms) <= room(numbers))]
            self.assertEqual(asked(p, n, terms, numbers), answer, (p, n, terms, numbers))
            self.assertEqual(symmetric_sum(p, terms, numbers), answer[0], (p, n, terms, numbers))

    def test_the_largest_case(self):
        all_times = sorted(itertools.product(range(13), repeat=3), key=lambda x: (sum(x), x))
        terms = {times: 1 + k % 6 for k, times in enumerate(all_times[-100:])}
        self.assertEqual(len(polynomial_row(terms)), 400)
        numbers = [range(7)] * 3
        self.assertEqual(asked(7, 3, terms, numbers), [symmetric_sum(7, terms, numbers), 0])


class WhatHolds(unittest.TestCase):
    def test_every_small_case(self):
        seen = 0
        for p, n, terms, numbers in all_small_cases():
            first, second = asked(p, n, terms, numbers)
            if second == 1:
                self.assertEqual([first], last_factor(p, n, terms, numbers), (p, n, terms, numbers))
                seen += first != 0
        self.assertGreater(seen, 100)

    def test_degrees_up_to_what_is_told(self):
        source = random.Random(6)
        for turn in range(400):
            p = source.choice((2, 3, 5, 7))
            n = source.randint(1, 3)
            numbers = some_numbers(source, p, n)
            terms = {
                times: factor
                for times, factor in some_terms(source, p, n, 12, 6).items()
                if sum(times) <= room(numbers)
            }
            if turn % 2:
                terms[tuple(len(row) - 1 for row in numbers)] = source.randint(1, p - 1)
            answer = asked(p, n, terms, numbers)
            self.assertEqual(answer, last_factor(p, n, terms, numbers) + [1], (p, n, terms, numbers))


class Refusals(GridRefusals, unittest.TestCase):
    call = staticmethod(summed)


class Handed(GridHanded, unittest.TestCase):
    call = staticmethod(summed)

    def test_two_numbers_or_a_refusal(self):
        sizes = [len(summed(*handed)) for handed in self.CALLS]
        self.assertEqual(sizes, [2] * 4 + [1] * 6)


if __name__ == "__main__":
    unittest.main()
