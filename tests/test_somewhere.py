import itertools
import random
import unittest

from notnought.grids import somewhere

from reference import (
    BAD_GRIDS,
    REFUSED,
    GridHanded,
    GridRefusals,
    first_point,
    fitting_cases,
    grid_row,
    grids_of,
    polynomial_row,
    short_grids,
    some_numbers,
    some_terms,
    times_linear,
)

NOUGHT = [-33]


class Answers(unittest.TestCase):
    def test_one_unknown(self):
        # x - 2 modulo 5
        f = [3, 0, 1, 1]
        self.assertEqual(somewhere(5, 1, f, [3, 2, 3, 4]), [1, 3])
        self.assertEqual(somewhere(5, 1, f, [2, 1, 2]), [1, 1])
        self.assertEqual(somewhere(5, 1, f, [1, 2]), NOUGHT)

    def test_two_unknowns(self):
        # x1 x2 - 1 modulo 5
        f = [4, 0, 0, 1, 1, 1]
        self.assertEqual(somewhere(5, 2, f, [2, 1, 2, 2, 1, 3]), [2, 1, 3])
        self.assertEqual(somewhere(5, 2, f, [2, 2, 3, 1, 3]), [2, 3, 3])
        self.assertEqual(somewhere(5, 2, f, [1, 2, 1, 3]), NOUGHT)

    def test_the_first_unknown_leads_the_order(self):
        # x1 + x2 is 0 at (0, 0) alone on this grid, so (0, 1) comes ahead of (1, 0).
        self.assertEqual(somewhere(3, 2, [1, 0, 1, 1, 1, 0], [2, 0, 1, 2, 0, 1]), [2, 0, 1])
        # x2 by itself, then x1 by itself, then x2 before x3.
        self.assertEqual(somewhere(3, 2, [1, 0, 1], [2, 0, 1, 2, 0, 1]), [2, 0, 1])
        self.assertEqual(somewhere(3, 2, [1, 1, 0], [2, 0, 1, 2, 0, 1]), [2, 1, 0])
        f = [1, 0, 0, 1, 1, 0, 1, 0, 1, 1, 0, 0]
        self.assertEqual(somewhere(7, 3, f, [2, 0, 1, 2, 0, 1, 2, 0, 1]), [3, 0, 0, 1])
        f = [1, 0, 1, 0, 1, 1, 0, 0]
        self.assertEqual(somewhere(7, 3, f, [2, 0, 1, 2, 0, 1, 2, 0, 1]), [3, 0, 1, 0])

    def test_no_terms(self):
        for p, n in itertools.product((2, 3, 5, 7), (1, 2, 3)):
            all_numbers = grid_row([range(p)] * n)
            self.assertEqual(somewhere(p, n, [], all_numbers), NOUGHT)
            self.assertEqual(somewhere(p, n, [], [1, 0] * n), NOUGHT)

    def test_a_constant(self):
        for p, n in itertools.product((2, 3, 5, 7), (1, 2, 3)):
            for number in range(p):
                g = [1, number] * n
                self.assertEqual(somewhere(p, n, [p - 1] + [0] * n, g), [n] + [number] * n)

    def test_a_grid_of_one_point(self):
        f = [1, 1, 1, 1]
        self.assertEqual(somewhere(7, 3, f, [1, 2, 1, 3, 1, 4]), [3, 2, 3, 4])
        self.assertEqual(somewhere(7, 3, f, [1, 2, 1, 0, 1, 4]), NOUGHT)

    def test_all_numbers(self):
        for p in (2, 3, 5, 7):
            all_numbers = grid_row([range(p)])
            # x to the p less x is 0 everywhere; x to the p - 1 less 1 is not 0 at 0 alone.
            self.assertEqual(somewhere(p, 1, [p - 1, 1, 1, p], all_numbers), NOUGHT)
            self.assertEqual(somewhere(p, 1, [p - 1, 0, 1, p - 1], all_numbers), [1, 0])
            self.assertEqual(somewhere(p, 1, [p - 1, 0, 1, p - 1], grid_row([range(1, p)])), NOUGHT)

    def test_an_unknown_12_times(self):
        # Modulo 7 a twelfth power is 1, but for that of 0.
        self.assertEqual(somewhere(7, 1, [6, 0, 1, 12], [6, 1, 2, 3, 4, 5, 6]), NOUGHT)
        self.assertEqual(somewhere(7, 1, [1, 12], [2, 0, 3]), [1, 3])
        self.assertEqual(somewhere(7, 1, [6, 0, 1, 11], [3, 1, 2, 3]), [1, 2])
        self.assertEqual(somewhere(5, 3, [1, 12, 12, 12], [2, 0, 4, 2, 0, 3, 2, 0, 2]), [3, 4, 3, 2])

    def test_a_grid_that_is_just_too_small(self):
        # (x1 - 1)(x2 - 1) modulo 3
        f = [1, 0, 0, 2, 0, 1, 2, 1, 0, 1, 1, 1]
        self.assertEqual(somewhere(3, 2, f, [2, 1, 2, 2, 1, 2]), [2, 2, 2])
        self.assertEqual(somewhere(3, 2, f, [1, 1, 2, 1, 2]), NOUGHT)
        self.assertEqual(somewhere(3, 2, f, [2, 1, 2, 1, 1]), NOUGHT)

    def test_only_the_last_point_is_not_nought(self):
        # x1 x2 x3 is 0 at all points of this grid but its last one.
        self.assertEqual(somewhere(2, 3, [1, 1, 1, 1], [2, 0, 1] * 3), [3, 1, 1, 1])

    def test_some_point_is_told_where_the_highest_term_fits(self):
        for p, n, terms, numbers in fitting_cases(random.Random(2), 300):
            answer = somewhere(p, n, polynomial_row(terms), grid_row(numbers))
            self.assertEqual(answer[0], n)

    def test_every_grid_with_some_polynomials(self):
        source = random.Random(3)
        for p, n in ((2, 1), (2, 2), (2, 3), (3, 1), (3, 2), (3, 3), (5, 1), (5, 2), (7, 1)):
            for g, numbers in grids_of(p, n).items():
                terms = some_terms(source, p, n, 4, source.choice((1, 3, 12)))
                answer = somewhere(p, n, polynomial_row(terms), list(g))
                self.assertEqual(answer, first_point(p, n, terms, numbers), (p, n, terms, g))

    def test_against_the_reference(self):
        source = random.Random(4)
        for turn in range(600):
            p = source.choice((2, 3, 5, 7))
            n = source.randint(1, 3)
            terms = some_terms(source, p, n, 6, source.choice((1, 2, 12)))
            if source.random() < 0.6:
                # Times x1 less a number, so that the first points are often nought.
                terms = times_linear(p, n, terms, source.randrange(p))
            numbers = some_numbers(source, p, n)
            answer = somewhere(p, n, polynomial_row(terms), grid_row(numbers))
            self.assertEqual(answer, first_point(p, n, terms, numbers), (p, n, terms, numbers))

    def test_a_large_polynomial_that_is_nought_on_all(self):
        # x1 to the p less x1, times 50 terms: 100 terms, 0 at all 343 points.
        terms = {}
        others = list(itertools.product(range(8), repeat=2))[:50]
        for second, third in others:
            terms[(7, second, third)] = 1
            terms[(1, second, third)] = 6
        f = polynomial_row(terms)
        self.assertEqual(len(f), 400)
        self.assertEqual(somewhere(7, 3, f, grid_row([range(7)] * 3)), NOUGHT)


class Refusals(GridRefusals, unittest.TestCase):
    call = staticmethod(somewhere)

    def test_not_as_told_goes_ahead_of_nought(self):
        for why, g in BAD_GRIDS.items():
            self.assertEqual(somewhere(5, 2, [], g), REFUSED, why)
        self.assertEqual(somewhere(4, 2, [], [1, 0, 1, 0]), REFUSED)
        self.assertEqual(somewhere(5, 2, [0, 1, 1], [1, 0, 1, 0]), REFUSED)

    def test_the_first_point_of_every_short_grid(self):
        for p, n, g, numbers in short_grids():
            first = REFUSED if numbers is None else [n] + [row[0] for row in numbers]
            self.assertEqual(somewhere(p, n, [1] + [0] * n, g), first, (p, n, g))


class Handed(GridHanded, unittest.TestCase):
    call = staticmethod(somewhere)


if __name__ == "__main__":
    unittest.main()
