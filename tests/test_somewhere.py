import itertools
import random
import unittest

from notnought.grids import somewhere

from reference import (
    BAD_COUNTS,
    BAD_POLYNOMIALS,
    BAD_PRIMES,
    LARGEST,
    Untouchable,
    first_point,
    grid_row,
    grids_of,
    polynomial_row,
    polynomials_of,
    some_numbers,
    some_terms,
    words,
)

REFUSED = [-22]
NOUGHT = [-33]

# Rows that are no grid for p = 5 and n = 2, and why.
BAD_GRIDS = {
    "nothing": [],
    "one row": [2, 0, 1],
    "three rows": [1, 0, 1, 0, 1, 0],
    "a number too few": [1, 0, 2, 0],
    "a count alone": [1, 0, 1],
    "a number too many": [1, 0, 1, 0, 0],
    "count too large by far": [1, 0, LARGEST, 0],
    "first count too large by far": [LARGEST, 0, 1, 0],
    "none for the first unknown": [0, 1, 0],
    "none for the second unknown": [1, 0, 0],
    "none for both": [0, 0],
    "none for a third": [1, 0, 1, 0, 0],
    "first row falls": [2, 1, 0, 1, 0],
    "second row falls": [1, 0, 2, 1, 0],
    "falls at its end": [1, 0, 3, 0, 2, 1],
    "first row has one twice": [2, 1, 1, 1, 0],
    "second row has one twice": [1, 0, 2, 3, 3],
    "number p": [1, 5, 1, 0],
    "number p in the second row": [1, 0, 1, 5],
    "number p behind others": [1, 0, 3, 0, 1, 5],
    "more numbers than there are": [6, 0, 1, 2, 3, 4, 5, 1, 0],
    "largest number": [1, LARGEST, 1, 0],
    "400 zeros": [0] * 400,
    "400 ones": [1] * 400,
    "400 of the largest": [LARGEST] * 400,
}


class Answers(unittest.TestCase):
    def test_one_unknown(self):
        # x - 2 modulo 5
        f = [3, 0, 1, 1]
        self.assertEqual(somewhere(5, 1, f, [3, 2, 3, 4]), [1, 3])
        self.assertEqual(somewhere(5, 1, f, [2, 1, 2]), [1, 1])
        self.assertEqual(somewhere(5, 1, f, [1, 2]), NOUGHT)

    def test_two_unknowns(self):
        # x1 x2 - 1 modulo 5
        f = [4, 0, 0, 1, 1, 1]
        self.assertEqual(somewhere(5, 2, f, [2, 1, 2, 2, 1, 3]), [2, 1, 3])
        self.assertEqual(somewhere(5, 2, f, [2, 2, 3, 1, 3]), [2, 3, 3])
        self.assertEqual(somewhere(5, 2, f, [1, 2, 1, 3]), NOUGHT)

    def test_the_first_unknown_leads_the_order(self):
        # x1 + x2 is 0 at (0, 0) alone on this grid, so (0, 1) comes ahead of (1, 0).
        self.assertEqual(somewhere(3, 2, [1, 0, 1, 1, 1, 0], [2, 0, 1, 2, 0, 1]), [2, 0, 1])
        # x2 by itself, then x1 by itself, then x2 before x3.
        self.assertEqual(somewhere(3, 2, [1, 0, 1], [2, 0, 1, 2, 0, 1]), [2, 0, 1])
        self.assertEqual(somewhere(3, 2, [1, 1, 0], [2, 0, 1, 2, 0, 1]), [2, 1, 0])
        f = [1, 0, 0, 1, 1, 0, 1, 0, 1, 1, 0, 0]
        self.assertEqual(somewhere(7, 3, f, [2, 0, 1, 2, 0, 1, 2, 0, 1]), [3, 0, 0, 1])
        f = [1, 0, 1, 0, 1, 1, 0, 0]
        self.assertEqual(somewhere(7, 3, f, [2, 0, 1, 2, 0, 1, 2, 0, 1]), [3, 0, 1, 0])

    def test_no_terms(self):
        for p, n in itertools.product((2, 3, 5, 7), (1, 2, 3)):
            all_numbers = grid_row([range(p)] * n)
            self.assertEqual(somewhere(p, n, [], all_numbers), NOUGHT)
            self.assertEqual(somewhere(p, n, [], [1, 0] * n), NOUGHT)

    def test_a_constant(self):
        for p, n in itertools.product((2, 3, 5, 7), (1, 2, 3)):
            for number in range(p):
                g = [1, number] * n
                self.assertEqual(somewhere(p, n, [p - 1] + [0] * n, g), [n] + [number] * n)

    def test_a_grid_of_one_point(self):
        f = [1, 1, 1, 1]
        self.assertEqual(somewhere(7, 3, f, [1, 2, 1, 3, 1, 4]), [3, 2, 3, 4])
        self.assertEqual(somewhere(7, 3, f, [1, 2, 1, 0, 1, 4]), NOUGHT)

    def test_all_numbers(self):
        for p in (2, 3, 5, 7):
            all_numbers = grid_row([range(p)])
            # x to the p less x is 0 everywhere; x to the p - 1 less 1 is not 0 at 0 alone.
            self.assertEqual(somewhere(p, 1, [p - 1, 1, 1, p], all_numbers), NOUGHT)
            self.assertEqual(somewhere(p, 1, [p - 1, 0, 1, p - 1], all_numbers), [1, 0])
            self.assertEqual(somewhere(p, 1, [p - 1, 0, 1, p - 1], grid_row([range(1, p)])), NOUGHT)

    def test_an_unknown_12_times(self):
        # Modulo 7 a twelfth power is 1, but for that of 0.
        self.assertEqual(somewhere(7, 1, [6, 0, 1, 12], [6, 1, 2, 3, 4, 5, 6]), NOUGHT)
        self.assertEqual(somewhere(7, 1, [1, 12], [2, 0, 3]), [1, 3])
        self.assertEqual(somewhere(7, 1, [6, 0, 1, 11], [3, 1, 2, 3]), [1, 2])
        self.assertEqual(somewhere(5, 3, [1, 12, 12, 12], [2, 0, 4, 2, 0, 3, 2, 0, 2]), [3, 4, 3, 2])

    def test_a_grid_that_is_just_too_small(self):
        # (x1 - 1)(x2 - 1) modulo 3
        f = [1, 0, 0, 2, 0, 1, 2, 1, 0, 1, 1, 1]
        self.assertEqual(somewhere(3, 2, f, [2, 1, 2, 2, 1, 2]), [2, 2, 2])
        self.assertEqual(somewhere(3, 2, f, [1, 1, 2, 1, 2]), NOUGHT)
        self.assertEqual(somewhere(3, 2, f, [2, 1, 2, 1, 1]), NOUGHT)

    def test_only_the_last_point_is_not_nought(self):
        # x1 x2 x3 is 0 at all points of this grid but its last one.
        self.assertEqual(somewhere(2, 3, [1, 1, 1, 1], [2, 0, 1] * 3), [3, 1, 1, 1])

    def test_some_point_is_told_where_the_highest_term_fits(self):
        source = random.Random(2)
        for turn in range(300):
            p = source.choice((2, 3, 5, 7))
            n = source.randint(1, 3)
            numbers = some_numbers(source, p, n)
            top = tuple(source.randint(0, len(row) - 1) for row in numbers)
            terms = {
                times: factor
                for times, factor in some_terms(source, p, n, 10, 4).items()
                if sum(times) <= sum(top)
            }
            terms[top] = source.randint(1, p - 1)
            answer = somewhere(p, n, polynomial_row(terms), grid_row(numbers))
            self.assertEqual(answer[0], n)

    def test_every_grid_with_some_polynomials(self):
        source = random.Random(3)
        for p, n in ((2, 1), (2, 2), (2, 3), (3, 1), (3, 2), (3, 3), (5, 1), (5, 2), (7, 1)):
            for g, numbers in grids_of(p, n).items():
                terms = some_terms(source, p, n, 4, source.choice((1, 3, 12)))
                answer = somewhere(p, n, polynomial_row(terms), list(g))
                self.assertEqual(answer, first_point(p, n, terms, numbers), (p, n, terms, g))

    def test_against_the_reference(self):
        source = random.Random(4)
        for turn in range(600):
            p = source.choice((2, 3, 5, 7))
            n = source.randint(1, 3)
            terms = some_terms(source, p, n, 6, source.choice((1, 2, 12)))
            if source.random() < 0.6:
                # Times x1 less a number, so that the first points are often nought.
                terms = times_linear(p, n, terms, source.randrange(p))
            numbers = some_numbers(source, p, n)
            answer = somewhere(p, n, polynomial_row(terms), grid_row(numbers))
            self.assertEqual(answer, first_point(p, n, terms, numbers), (p, n, terms, numbers))

    def test_a_large_polynomial_that_is_nought_on_all(self):
        # x1 to the p less x1, times 50 terms: 100 terms, 0 at all 343 points.
        terms = {}
        others = list(itertools.product(range(8), repeat=2))[:50]
        for second, third in others:
            terms[(7, second, third)] = 1
            terms[(1, second, third)] = 6
        f = polynomial_row(terms)
        self.assertEqual(len(f), 400)
        self.assertEqual(somewhere(7, 3, f, grid_row([range(7)] * 3)), NOUGHT)


def times_linear(p, n, terms, number):
    product = {}
    for times, factor in terms.items():
        if times[0] == 12:
            continue
        more = (times[0] + 1,) + times[1:]
        product[more] = (product.get(more, 0) + factor) % p
        product[times] = (product.get(times, 0) - factor * number) % p
    return {times: factor for times, factor in product.items() if factor}


class Refusals(unittest.TestCase):
    def test_p(self):
        for p in BAD_PRIMES:
            self.assertEqual(somewhere(p, 1, [1, 0], [1, 0]), REFUSED, p)
            self.assertEqual(somewhere(p, 1, [], [1, 0]), REFUSED, p)

    def test_n(self):
        for n in BAD_COUNTS:
            self.assertEqual(somewhere(5, n, [], [1, 0] * min(n, 200)), REFUSED, n)
            self.assertEqual(somewhere(5, n, [1, 0], [1, 0]), REFUSED, n)
        self.assertEqual(somewhere(5, 0, [1], []), REFUSED)
        self.assertEqual(somewhere(5, 4, [1, 0, 0, 0, 0], [1, 0] * 4), REFUSED)

    def test_f(self):
        for why, f in BAD_POLYNOMIALS.items():
            self.assertEqual(somewhere(5, 2, f, [2, 0, 1, 2, 0, 1]), REFUSED, why)

    def test_g(self):
        for why, g in BAD_GRIDS.items():
            self.assertEqual(somewhere(5, 2, [1, 0, 0], g), REFUSED, why)

    def test_not_as_told_goes_ahead_of_nought(self):
        for why, g in BAD_GRIDS.items():
            self.assertEqual(somewhere(5, 2, [], g), REFUSED, why)
        self.assertEqual(somewhere(4, 2, [], [1, 0, 1, 0]), REFUSED)
        self.assertEqual(somewhere(5, 2, [0, 1, 1], [1, 0, 1, 0]), REFUSED)

    def test_several_at_once(self):
        for p, n in itertools.product((6, LARGEST, 5), (0, LARGEST, 2)):
            for f in ([0, 1, 1], [LARGEST] * 400, [1, 0, 0]):
                for g in ([], [LARGEST] * 400, [1, 0, 1, 0]):
                    right = (p, n, f, g) == (5, 2, [1, 0, 0], [1, 0, 1, 0])
                    self.assertEqual(somewhere(p, n, f, g), [2, 0, 0] if right else REFUSED)

    def test_every_short_polynomial(self):
        for p, n, letters, terms in (
            (2, 1, (0, 1, 2, 12, 13), 3),
            (3, 2, (0, 1, 2, 3), 2),
            (2, 3, (0, 1, 2), 2),
        ):
            right = polynomials_of(p, n, letters, terms)
            for f in words(letters, terms * (n + 1)):
                refused = somewhere(p, n, f, [1, 1] * n) == REFUSED
                self.assertEqual(refused, tuple(f) not in right, (p, n, f))

    def test_every_short_grid(self):
        for p, n, longest in ((2, 1, 5), (2, 2, 6), (2, 3, 7), (3, 1, 5), (3, 2, 7), (3, 3, 7)):
            right = grids_of(p, n)
            one = [1] + [0] * n
            for g in words((0, 1, 2, 3), longest):
                numbers = right.get(tuple(g))
                first = REFUSED if numbers is None else [n] + [row[0] for row in numbers]
                self.assertEqual(somewhere(p, n, one, g), first, (p, n, g))


class Handed(unittest.TestCase):
    CALLS = (
        (5, 2, [4, 0, 0, 1, 1, 1], [2, 1, 2, 2, 1, 3]),
        (5, 2, [4, 0, 0, 1, 1, 1], [1, 2, 1, 3]),
        (5, 2, [], [1, 2, 1, 3]),
        (5, 2, [4, 0, 0, 1, 1, 1], [2, 2, 1, 2, 1, 3]),
        (5, 2, [4, 0, 0, 1, 1, 1], [2, 1, 2, 2, 1]),
        (5, 2, [1, 1, 1, 4, 0, 0], [2, 1, 2, 2, 1, 3]),
        (6, 2, [4, 0, 0, 1, 1, 1], [2, 1, 2, 2, 1, 3]),
        (5, 0, [4, 0, 0, 1, 1, 1], [2, 1, 2, 2, 1, 3]),
        (5, 2, [LARGEST] * 400, [LARGEST] * 400),
    )

    def test_lists_stay_as_they_were(self):
        for p, n, f, g in self.CALLS:
            handed_f, handed_g = Untouchable(f), Untouchable(g)
            somewhere(p, n, handed_f, handed_g)
            self.assertEqual((handed_f, handed_g), (f, g))
            plain_f, plain_g = list(f), list(g)
            somewhere(p, n, plain_f, plain_g)
            self.assertEqual((plain_f, plain_g), (f, g))

    def test_nothing_is_kept(self):
        for p, n, f, g in self.CALLS:
            first = somewhere(p, n, list(f), list(g))
            kept = list(first)
            first.append(99)
            self.assertEqual(somewhere(p, n, list(f), list(g)), kept)

    def test_one_list_of_whole_numbers(self):
        for p, n, f, g in self.CALLS:
            answer = somewhere(p, n, f, g)
            self.assertIs(type(answer), list)
            self.assertEqual({type(number) for number in answer}, {int})


if __name__ == "__main__":
    unittest.main()
