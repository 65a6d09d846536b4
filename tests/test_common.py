import itertools
import random
import unittest

from notnought.grids import common

from reference import (
    BAD_POLYNOMIALS,
    LARGEST,
    REFUSED,
    AnyHanded,
    PolynomialRefusals,
    degree,
    polynomial_row,
    polynomials_of,
    some_terms,
    times_linear,
    zero_set,
)

SIZES = tuple(itertools.product((2, 3, 5, 7), (1, 2, 3)))


def asked(p, n, f, h):
    """What common answers of two polynomials told as dicts."""
    return common(p, n, polynomial_row(f), polynomial_row(h))


def reckoned(p, n, f, h):
    """The same, reckoned apart from the program."""
    both = sorted(set(zero_set(p, n, f)) & set(zero_set(p, n, h)))
    return [len(both)] + both


def all_terms(p, n, most_times, most_terms):
    """Every polynomial of at most so many terms in which no unknown stands more often, as a dict."""
    for row in sorted(polynomials_of(p, n, range(max(p, most_times + 1)), most_terms)):
        terms = {row[k + 1:k + n + 1]: row[k] for k in range(0, len(row), n + 1)}
        if all(max(times) <= most_times for times in terms):
            yield terms


def all_of_degree(p, n, highest):
    """Every polynomial of no higher degree, as a dict."""
    all_times = [times for times in itertools.product(range(highest + 1), repeat=n) if sum(times) <= highest]
    for factors in itertools.product(range(p), repeat=len(all_times)):
        yield {times: factor for times, factor in zip(all_times, factors) if factor}


def some_of_degree(source, p, n, highest):
    """A polynomial of no higher degree, its terms drawn from all there may be."""
    all_times = [times for times in itertools.product(range(highest + 1), repeat=n) if sum(times) <= highest]
    return {times: source.randint(1, p - 1) for times in all_times if source.random() < 0.5}


class Answers(unittest.TestCase):
    def test_one_unknown(self):
        # (x - 1)(x - 4) and (x - 4)(x - 3) modulo 5: 4 is in both.
        f = [4, 0, 1, 2]
        h = [2, 0, 3, 1, 1, 2]
        self.assertEqual(common(5, 1, f, []), [2, 1, 4])
        self.assertEqual(common(5, 1, h, []), [2, 3, 4])
        self.assertEqual(common(5, 1, f, h), [1, 4])
        self.assertEqual(common(5, 1, h, f), [1, 4])

    def test_two_unknowns(self):
        # x1 x2 - 1 and x1 - x2 modulo 5: at (1, 1) and (4, 4).
        f = [4, 0, 0, 1, 1, 1]
        h = [4, 0, 1, 1, 1, 0]
        self.assertEqual(common(5, 2, f, h), [2, 6, 24])

    def test_a_point_is_numbered_by_x1_and_p_times_x2_and_p_times_p_times_x3(self):
        for p in (3, 5, 7):
            first, second, third = 1, 2, 0
            # x1 less the first number together with x2 less the second; then x3 is any.
            f = [p - first, 0, 0, 0, 1, 1, 0, 0]
            h = [p - second, 0, 0, 0, 1, 0, 1, 0]
            answer = [first + p * second + p * p * k for k in range(p)]
            self.assertEqual(common(p, 3, f, h), [p] + answer)
            # x1 and x3 told, x2 any.
            h = [1, 0, 0, 1]
            answer = [first + p * k + p * p * third for k in range(p)]
            self.assertEqual(common(p, 3, f, h), [p] + answer)
            # x2 and x3 told, x1 any.
            f = [p - second, 0, 0, 0, 1, 0, 1, 0]
            answer = [k + p * second + p * p * third for k in range(p)]
            self.assertEqual(common(p, 3, f, h), [p] + answer)

    def test_the_unknowns_are_told_apart(self):
        self.assertEqual(common(3, 2, [1, 1, 0], []), [3, 0, 3, 6])
        self.assertEqual(common(3, 2, [1, 0, 1], []), [3, 0, 1, 2])
        self.assertEqual(common(2, 3, [1, 0, 0, 1], []), [4, 0, 1, 2, 3])
        self.assertEqual(common(2, 3, [1, 0, 1, 0], []), [4, 0, 1, 4, 5])
        self.assertEqual(common(2, 3, [1, 1, 0, 0], []), [4, 0, 2, 4, 6])

    def test_one_point_alone(self):
        for p, n in SIZES:
            # The product of 1 less each unknown's power of p - 1 is 1 at 0 alone; less 1 it's 0 there.
            terms = {
                times: (-1) ** (n - times.count(0)) % p
                for times in itertools.product((0, p - 1), repeat=n)
                if any(times)
            }
            self.assertEqual(asked(p, n, terms, {}), [1, 0])
            self.assertEqual(asked(p, n, {}, terms), [1, 0])

    def test_the_last_point(self):
        for p in (2, 3, 5, 7):
            self.assertEqual(common(p, 1, [1, 0, 1, 1], [1, 0, 1, 1]), [1, p - 1])
            # x1 + 1 and x2 + 1
            self.assertEqual(common(p, 2, [1, 0, 0, 1, 1, 0], [1, 0, 0, 1, 0, 1]), [1, p * p - 1])

    def test_no_terms(self):
        for p, n in SIZES:
            every = list(range(p ** n))
            self.assertEqual(common(p, n, [], []), [p ** n] + every)
            constant = [p - 1] + [0] * n
            self.assertEqual(common(p, n, [], constant), [0])
            self.assertEqual(common(p, n, constant, []), [0])
            # x1 alone is 0 where p divides the point's number.
            linear = [1, 1] + [0] * (n - 1)
            zeros = [k for k in every if k % p == 0]
            self.assertEqual(common(p, n, [], linear), [len(zeros)] + zeros)
            self.assertEqual(common(p, n, linear, []), [len(zeros)] + zeros)

    def test_zeros_that_are_all(self):
        for p, n in SIZES:
            # x1 to the p less x1
            f = [p - 1, 1] + [0] * (n - 1) + [1, p] + [0] * (n - 1)
            h = [p - 1] + [0] * (n - 1) + [1, 1] + [0] * (n - 1) + [p]
            self.assertEqual(common(p, n, f, h), [p ** n] + list(range(p ** n)))
            self.assertEqual(common(p, n, f, []), [p ** n] + list(range(p ** n)))

    def test_never_both_at_once(self):
        for p, n in SIZES:
            x = [1, 1] + [0] * (n - 1)
            for factor in range(1, p):
                constant = [factor] + [0] * n
                self.assertEqual(common(p, n, x, constant), [0])
                self.assertEqual(common(p, n, constant, x), [0])
                self.assertEqual(common(p, n, constant, constant), [0])
                self.assertEqual(common(p, n, x, constant + x), [0])
        # The square is never 2 modulo 5.
        self.assertEqual(common(5, 1, [3, 0, 1, 2], []), [0])

    def test_two_that_are_alike(self):
        source = random.Random(9)
        for p, n in SIZES:
            for turn in range(6):
                terms = some_terms(source, p, n, 5, 4)
                zeros = zero_set(p, n, terms)
                self.assertEqual(asked(p, n, terms, terms), [len(zeros)] + zeros, (p, n, terms))
                self.assertEqual(asked(p, n, terms, {}), [len(zeros)] + zeros, (p, n, terms))

    def test_an_unknown_12_times(self):
        # Modulo 7 a twelfth power is 1, but for that of 0.
        self.assertEqual(common(7, 1, [6, 0, 1, 12], []), [6, 1, 2, 3, 4, 5, 6])
        self.assertEqual(common(7, 1, [1, 12], [1, 1]), [1, 0])
        self.assertEqual(common(2, 3, [1, 12, 12, 12], [1, 0, 0, 0, 1, 12, 0, 0]), [3, 1, 3, 5])

    def test_all_pairs_of_small_polynomials(self):
        for p, n, most_times, most_terms in (
            (2, 1, 3, 4), (2, 2, 1, 4), (2, 2, 2, 2), (2, 3, 1, 2), (3, 1, 2, 3), (3, 1, 4, 2), (3, 2, 1, 2),
            (3, 3, 1, 1), (5, 1, 2, 2), (7, 1, 1, 2),
        ):
            told = [(f, polynomial_row(f), set(zero_set(p, n, f))) for f in all_terms(p, n, most_times, most_terms)]
            for (f, first, f_zeros), (h, second, h_zeros) in itertools.product(told, repeat=2):
                both = sorted(f_zeros & h_zeros)
                self.assertEqual(common(p, n, first, second), [len(both)] + both, (p, n, f, h))

    def test_against_the_reference(self):
        source = random.Random(10)
        seen = {}
        for p, n in SIZES:
            for turn in range(30):
                most = source.choice((1, 2, 4, 12))
                f = some_terms(source, p, n, 5, most)
                h = some_terms(source, p, n, 5, most)
                if turn % 2:
                    # Times x1 less one number, so that there are common zeros.
                    number = source.randrange(p)
                    f, h = times_linear(p, n, f, number), times_linear(p, n, h, number)
                answer = reckoned(p, n, f, h)
                self.assertEqual(asked(p, n, f, h), answer, (p, n, f, h))
                seen[p, n] = max(seen.get((p, n), 0), answer[0])
        self.assertGreater(min(seen.values()), 0)

    def test_the_largest_case(self):
        all_times = sorted(itertools.product(range(13), repeat=3), key=lambda x: (sum(x), x))
        f = {times: 1 + k % 6 for k, times in enumerate(all_times[:100])}
        h = {times: 1 + k % 6 for k, times in enumerate(all_times[-100:])}
        for first, second in ((f, h), (h, f), (f, f), (h, h)):
            self.assertEqual(len(polynomial_row(first)), 400)
            self.assertEqual(asked(7, 3, first, second), reckoned(7, 3, first, second))


class WhatHolds(unittest.TestCase):
    """If both degrees together are less than n, the zeros come by p."""

    def check(self, p, n, f, h):
        self.assertLess(degree(f) + degree(h), n)
        answer = asked(p, n, f, h)
        self.assertEqual(answer[0] % p, 0, (p, n, f, h))
        self.assertEqual(len(answer), 1 + answer[0], (p, n, f, h))
        return answer[0]

    def test_constants(self):
        for p, n in SIZES:
            for f, h in itertools.product(all_of_degree(p, n, 0), repeat=2):
                self.assertEqual(self.check(p, n, f, h), 0 if f or h else p ** n)

    def test_one_linear_and_a_constant(self):
        for p in (2, 3, 5):
            for f, h in itertools.product(all_of_degree(p, 2, 1), all_of_degree(p, 2, 0)):
                self.check(p, 2, f, h)
                self.check(p, 2, h, f)

    def test_two_linear_ones(self):
        for p in (2, 3):
            for f, h in itertools.product(all_of_degree(p, 3, 1), repeat=2):
                self.check(p, 3, f, h)

    def test_squares_and_a_constant(self):
        for f, h in itertools.product(all_of_degree(2, 3, 2), all_of_degree(2, 3, 0)):
            self.check(2, 3, f, h)
            self.check(2, 3, h, f)

    def test_random_ones(self):
        source = random.Random(11)
        seen = set()
        for turn in range(250):
            p, n = source.choice(SIZES)
            highest = source.randint(0, n - 1)
            f = some_of_degree(source, p, n, highest)
            h = some_of_degree(source, p, n, n - 1 - highest) if turn % 3 else {}
            seen.add(self.check(p, n, f, h))
        self.assertGreater(len(seen), 10)

    def test_with_a_degree_just_too_high_it_need_not_hold(self):
        # x1 and x2 have both degrees together 2, and are 0 at one point of two unknowns.
        for p in (2, 3, 5, 7):
            self.assertEqual(common(p, 2, [1, 1, 0], [1, 0, 1]), [1, 0])
            self.assertEqual(common(p, 1, [1, 1], []), [1, 0])
        # x1 x1 + x1 x2 + x2 x2 modulo 2
        self.assertEqual(common(2, 2, [1, 0, 2, 1, 1, 1, 1, 2, 0], []), [1, 0])


class RefusalsOfF(PolynomialRefusals, unittest.TestCase):
    def ask(self, p, n, row):
        return common(p, n, row, [1] + [0] * min(n, 399))


class RefusalsOfH(PolynomialRefusals, unittest.TestCase):
    def ask(self, p, n, row):
        return common(p, n, [1] + [0] * min(n, 399), row)


class RefusalsBesideNoTerms(PolynomialRefusals, unittest.TestCase):
    def ask(self, p, n, row):
        first, second = common(p, n, row, []), common(p, n, [], row)
        self.assertEqual(first, second, (p, n, row))
        return first


class RefusalsOfSeveral(unittest.TestCase):
    def test_both_polynomials(self):
        for f, h in itertools.product(BAD_POLYNOMIALS.values(), repeat=2):
            self.assertEqual(common(5, 2, f, h), REFUSED, (f, h))

    def test_several_at_once(self):
        rights = [[], [1, 0, 0], [1, 0, 1, 4, 12, 12]]
        wrongs = [[0, 1, 1], [1, 1], [1, 1, 0, 1, 0, 1], [LARGEST] * 400, [0] * 400]
        for p, n in itertools.product((5, 6, LARGEST), (2, 0, 4, LARGEST)):
            for f, h in itertools.product(rights + wrongs, repeat=2):
                right = (p, n) == (5, 2) and f in rights and h in rights
                self.assertEqual(common(p, n, f, h) != REFUSED, right, (p, n, f, h))

    def test_a_polynomial_for_another_p_or_n(self):
        self.assertEqual(common(7, 1, [6, 0], [1, 1]), [0])
        self.assertEqual(common(5, 1, [6, 0], [1, 1]), REFUSED)
        self.assertEqual(common(5, 1, [1, 1], [6, 0]), REFUSED)
        self.assertEqual(common(7, 2, [6, 0], [1, 1, 0]), REFUSED)
        self.assertEqual(common(7, 1, [6, 0], [1, 1, 0]), REFUSED)


class Handed(AnyHanded, unittest.TestCase):
    call = staticmethod(common)
    CALLS = (
        (5, 2, [4, 0, 0, 1, 1, 1], [4, 0, 1, 1, 1, 0]),
        (5, 2, [4, 0, 0, 1, 1, 1], [4, 0, 0, 1, 1, 1]),
        (3, 3, [], []),
        (2, 1, [1, 0], [1, 1]),
        (7, 3, [6, 0, 0, 0, 3, 12, 12, 12], []),
        (5, 2, [1, 1, 1, 4, 0, 0], [4, 0, 1, 1, 1, 0]),
        (5, 2, [4, 0, 1, 1, 1, 0], [1, 1, 1, 4, 0, 0]),
        (5, 2, [4, 0, 1, 1, 1, 0], [4, 0, 1, 1, 1]),
        (6, 2, [4, 0, 0, 1, 1, 1], [4, 0, 1, 1, 1, 0]),
        (5, 0, [4, 0, 0, 1, 1, 1], [4, 0, 1, 1, 1, 0]),
        (5, 2, [LARGEST] * 400, [LARGEST] * 400),
    )


if __name__ == "__main__":
    unittest.main()
