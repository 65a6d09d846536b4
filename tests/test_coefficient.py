import itertools
import random
import unittest

from notnought.grids import coefficient

from reference import LARGEST, REFUSED, AnyHanded, PolynomialRefusals, polynomial_row, some_terms


class Answers(unittest.TestCase):
    def test_one_unknown(self):
        f = [3, 0, 1, 2, 4, 5]
        self.assertEqual(coefficient(5, 1, f, [0]), [3])
        self.assertEqual(coefficient(5, 1, f, [1]), [0])
        self.assertEqual(coefficient(5, 1, f, [2]), [1])
        self.assertEqual(coefficient(5, 1, f, [5]), [4])

    def test_the_unknowns_are_told_apart(self):
        f = [1, 0, 0, 1, 2, 0, 1, 0, 3, 1, 0, 0, 4, 1, 2, 3]
        self.assertEqual(coefficient(5, 3, f, [0, 0, 1]), [1])
        self.assertEqual(coefficient(5, 3, f, [0, 1, 0]), [2])
        self.assertEqual(coefficient(5, 3, f, [1, 0, 0]), [3])
        self.assertEqual(coefficient(5, 3, f, [1, 2, 3]), [4])
        self.assertEqual(coefficient(5, 3, f, [3, 2, 1]), [0])

    def test_no_terms(self):
        for p, n in itertools.product((2, 3, 5, 7), (1, 2, 3)):
            self.assertEqual(coefficient(p, n, [], [0] * n), [0])

    def test_the_factor_is_of_the_polynomial_as_told_not_reduced(self):
        f = [1, 1, 1, 3]
        self.assertEqual(coefficient(3, 1, f, [1]), [1])
        self.assertEqual(coefficient(3, 1, f, [3]), [1])

    def test_an_unknown_12_times(self):
        self.assertEqual(coefficient(2, 1, [1, 12], [12]), [1])
        self.assertEqual(coefficient(7, 3, [6, 12, 12, 12], [12, 12, 12]), [6])
        self.assertEqual(coefficient(7, 3, [6, 12, 12, 12], [12, 12, 11]), [0])

    def test_t_above_what_a_term_may_have(self):
        self.assertEqual(coefficient(5, 1, [1, 0], [13]), [0])
        self.assertEqual(coefficient(5, 2, [1, 0, 0], [0, LARGEST]), [0])

    def test_all_factors(self):
        for p in (2, 3, 5, 7):
            for factor in range(1, p):
                self.assertEqual(coefficient(p, 2, [factor, 1, 2], [1, 2]), [factor])

    def test_a_polynomial_of_400_numbers(self):
        all_times = sorted(itertools.product(range(5), repeat=3), key=lambda x: (sum(x), x))
        terms = {times: 1 + k % 6 for k, times in enumerate(all_times[:100])}
        f = polynomial_row(terms)
        self.assertEqual(len(f), 400)
        for times in all_times:
            self.assertEqual(coefficient(7, 3, f, list(times)), [terms.get(times, 0)])

    def test_against_the_reference(self):
        source = random.Random(1)
        for turn in range(600):
            p = source.choice((2, 3, 5, 7))
            n = source.randint(1, 3)
            most = source.choice((2, 3, 12))
            terms = some_terms(source, p, n, 8, most)
            f = polynomial_row(terms)
            asked = list(terms) + [tuple(source.randint(0, most) for k in range(n))]
            for times in asked:
                self.assertEqual(coefficient(p, n, f, list(times)), [terms.get(times, 0)])


class Refusals(PolynomialRefusals, unittest.TestCase):
    def ask(self, p, n, f):
        return coefficient(p, n, f, [0] * min(n, 400))

    def test_t(self):
        for n in (1, 2, 3):
            for size in (0, 1, 2, 3, 4, 399, 400):
                for number in (0, 1, LARGEST):
                    asked = coefficient(7, n, [1] + [0] * n, [number] * size)
                    answer = REFUSED if size != n else [0 if number else 1]
                    self.assertEqual(asked, answer, (n, size, number))

    def test_several_at_once(self):
        for p, n in itertools.product((6, LARGEST, 5), (0, LARGEST, 2)):
            for f in ([0, 1, 1], [LARGEST] * 400, [1, 0, 0]):
                for t in ([], [LARGEST] * 400, [0, 0]):
                    right = (p, n, f, t) == (5, 2, [1, 0, 0], [0, 0])
                    self.assertEqual(coefficient(p, n, f, t), [1] if right else REFUSED)


class Handed(AnyHanded, unittest.TestCase):
    call = staticmethod(coefficient)
    CALLS = (
        (5, 2, [1, 0, 0, 2, 1, 1], [1, 1]),
        (5, 2, [1, 0, 0, 2, 1, 1], [2, 1]),
        (5, 2, [1, 0, 0, 2, 1, 1], [1]),
        (5, 2, [2, 1, 1, 1, 0, 0], [1, 1]),
        (6, 2, [1, 0, 0, 2, 1, 1], [1, 1]),
        (5, 0, [1, 0, 0, 2, 1, 1], [1, 1]),
        (5, 2, [LARGEST] * 400, [LARGEST] * 400),
    )

    def test_one_number(self):
        self.assertEqual({len(coefficient(*handed)) for handed in self.CALLS}, {1})


if __name__ == "__main__":
    unittest.main()
