"""What the tests share: a second reckoning, written apart from the program, of what the calls
answer, and the tests that several calls must pass."""

import itertools
import math

LARGEST = 4294967295
REFUSED = [-22]


class Untouchable(list):
    """A list that fails the test as soon as somebody changes it, even for a while."""

    def refuse(self, *args, **kwargs):
        raise AssertionError("a list that was handed in was changed")

    append = clear = extend = insert = pop = remove = reverse = sort = refuse
    __setitem__ = __delitem__ = __iadd__ = __imul__ = refuse


def polynomial_row(terms):
    """The row of the polynomial told as a dict from exponents to factor."""
    row = []
    for times in sorted(terms, key=lambda times: (sum(times), times)):
        row += [terms[times], *times]
    return row


def polynomials_of(p, n, letters, most):
    """Every row of a polynomial that has only such letters and at most so many terms."""
    all_times = list(itertools.product([k for k in letters if k <= 12], repeat=n))
    factors = [k for k in letters if 1 <= k < p]
    found = set()
    for size in range(most + 1):
        for chosen in itertools.combinations(all_times, size):
            for given in itertools.product(factors, repeat=size):
                found.add(tuple(polynomial_row(dict(zip(chosen, given)))))
    return found


def grid_row(numbers_by_unknown):
    row = []
    for numbers in numbers_by_unknown:
        row += [len(numbers), *numbers]
    return row


def subsets_of(p):
    return [
        chosen
        for size in range(1, p + 1)
        for chosen in itertools.combinations(range(p), size)
    ]


def grids_of(p, n):
    """Every grid, from its row to its numbers for each unknown."""
    return {
        tuple(grid_row(numbers)): numbers
        for numbers in itertools.product(subsets_of(p), repeat=n)
    }


def value(p, terms, point):
    total = 0
    for times, factor in terms.items():
        product = factor
        for number, exponent in zip(point, times):
            product *= number ** exponent
        total += product
    return total % p


def first_point(p, n, terms, numbers_by_unknown):
    for point in itertools.product(*numbers_by_unknown):
        if value(p, terms, point):
            return [n, *point]
    return [-33]


def division_sum(p, terms, numbers_by_unknown):
    """All values on the grid, each divided by its point's weight."""
    total = 0
    for point in itertools.product(*numbers_by_unknown):
        weight = 1
        for k, numbers in enumerate(numbers_by_unknown):
            for other in set(numbers) - {point[k]}:
                weight *= point[k] - other
        total += value(p, terms, point) * pow(weight, -1, p)
    return total % p


def symmetric_sum(p, terms, numbers_by_unknown):
    """The same without a division: of a power of one unknown such a sum is what all products of as
    many numbers of its row come to as the power is too high for the row."""
    total = 0
    for times, factor in terms.items():
        product = factor
        for exponent, numbers in zip(times, numbers_by_unknown):
            product *= all_products(numbers, exponent - len(numbers) + 1)
        total += product
    return total % p


def all_products(numbers, size):
    if size < 0:
        return 0
    chosen = itertools.combinations_with_replacement(numbers, size)
    return sum(math.prod(some) for some in chosen)


def zero_set(p, n, terms):
    """The numbers of all points at which the polynomial is 0, rising."""
    return [k for k in range(p ** n) if value(p, terms, (k % p, k // p % p, k // p // p)[:n]) == 0]


def sum_set(p, a, b):
    """The numbers that are sums of one of a and one of b, rising."""
    return [k for k in range(p) if any((k - number) % p in b for number in a)]


def apart_set(p, a):
    """The numbers that are sums of two different ones of a, rising."""
    pairs = list(itertools.combinations(a, 2))
    return [k for k in range(p) if any(sum(pair) in (k, k + p) for pair in pairs)]


def degree(terms):
    return max(map(sum, terms), default=0)


def room(numbers_by_unknown):
    """The grid's numbers, of each unknown one less, together."""
    return sum(len(numbers) - 1 for numbers in numbers_by_unknown)


def is_sure(terms, numbers_by_unknown):
    for times in terms:
        if sum(times) == degree(terms):
            if all(k < len(numbers) for k, numbers in zip(times, numbers_by_unknown)):
                return True
    return False


def times_linear(p, n, terms, number):
    """The polynomial times x1 less the number, without the terms that would go above 12."""
    product = {}
    for times, factor in terms.items():
        if times[0] == 12:
            continue
        more = (times[0] + 1,) + times[1:]
        product[more] = (product.get(more, 0) + factor) % p
        product[times] = (product.get(times, 0) - factor * number) % p
    return {times: factor for times, factor in product.items() if factor}


def some_terms(random, p, n, most_terms, most_times):
    terms = {}
    for turn in range(random.randint(0, most_terms)):
        times = tuple(random.randint(0, most_times) for k in range(n))
        terms[times] = random.randint(1, p - 1)
    return terms


def some_numbers(random, p, n):
    return [sorted(random.sample(range(p), random.randint(1, p))) for k in range(n)]


def some_cases(random, turns):
    """p, n, the terms of a polynomial and a grid's numbers, so many times."""
    for turn in range(turns):
        p = random.choice((2, 3, 5, 7))
        n = random.randint(1, 3)
        terms = some_terms(random, p, n, 6, random.choice((1, 2, 4, 12)))
        yield p, n, terms, some_numbers(random, p, n)


def fitting_cases(random, turns):
    """The same, but a term of the polynomial's degree always fits into the grid."""
    for turn in range(turns):
        p = random.choice((2, 3, 5, 7))
        n = random.randint(1, 3)
        numbers = some_numbers(random, p, n)
        top = tuple(random.randint(0, len(row) - 1) for row in numbers)
        terms = some_terms(random, p, n, 10, 4)
        terms = {times: factor for times, factor in terms.items() if sum(times) <= sum(top)}
        terms[top] = random.randint(1, p - 1)
        yield p, n, terms, numbers


def all_small_cases():
    """p, n, the terms of every polynomial of few terms and the numbers of every grid."""
    for p, n, most_times, most_terms in ((2, 1, 4, 5), (2, 2, 2, 3), (2, 3, 1, 2), (3, 1, 4, 3), (3, 2, 2, 2)):
        grids = list(grids_of(p, n).values())
        for row in sorted(polynomials_of(p, n, range(max(p, most_times + 1)), most_terms)):
            terms = {row[k + 1:k + n + 1]: row[k] for k in range(0, len(row), n + 1)}
            for numbers in grids:
                yield p, n, terms, numbers


def words(letters, longest):
    """Every list of at most so many of these letters."""
    for size in range(longest + 1):
        for word in itertools.product(letters, repeat=size):
            yield list(word)


# Rows that are no polynomial for p = 5 and n = 2, and why.
BAD_POLYNOMIALS = {
    "a number too few": [1, 0],
    "a number too many": [1, 0, 0, 1],
    "second term too short": [1, 0, 0, 1, 1],
    "factor 0": [0, 1, 1],
    "factor p": [5, 1, 1],
    "factor above p": [6, 1, 1],
    "largest factor": [LARGEST, 1, 1],
    "factor 0 in the second term": [1, 0, 0, 0, 1, 1],
    "factor p in the second term": [1, 0, 0, 5, 1, 1],
    "first unknown 13 times": [1, 13, 0],
    "second unknown 13 times": [1, 0, 13],
    "first unknown as often as can be": [1, LARGEST, 0],
    "second unknown as often as can be": [1, 0, LARGEST],
    "greater degree first": [1, 1, 1, 1, 0, 1],
    "greater degree first, lesser first unknown": [1, 0, 2, 1, 1, 0],
    "like degree, first unknown falls": [1, 1, 0, 1, 0, 1],
    "alike": [1, 1, 1, 1, 1, 1],
    "alike but for the factor": [1, 1, 1, 2, 1, 1],
    "alike constants": [1, 0, 0, 4, 0, 0],
    "400 zeros": [0] * 400,
    "399 ones, alike terms": [1] * 399,
    "400 of the largest": [LARGEST] * 400,
    "399 of the largest": [LARGEST] * 399,
}

BAD_PRIMES = (0, 1, 4, 6, 8, 9, 11, 13, LARGEST - 4, LARGEST)
BAD_COUNTS = (0, 4, 5, 399, 400, LARGEST)

# Rows that are no grid for p = 5 and n = 2, and why.
BAD_GRIDS = {
    "nothing": [],
    "one row": [2, 0, 1],
    "three rows": [1, 0, 1, 0, 1, 0],
    "a number too few": [1, 0, 2, 0],
    "a count alone": [1, 0, 1],
    "a number too many": [1, 0, 1, 0, 0],
    "count too large by far": [1, 0, LARGEST, 0],
    "first count too large by far": [LARGEST, 0, 1, 0],
    "none for the first unknown": [0, 1, 0],
    "none for the second unknown": [1, 0, 0],
    "none for both": [0, 0],
    "none for a third": [1, 0, 1, 0, 0],
    "first row falls": [2, 1, 0, 1, 0],
    "second row falls": [1, 0, 2, 1, 0],
    "falls at its end": [1, 0, 3, 0, 2, 1],
    "first row has one twice": [2, 1, 1, 1, 0],
    "second row has one twice": [1, 0, 2, 3, 3],
    "number p": [1, 5, 1, 0],
    "number p in the second row": [1, 0, 1, 5],
    "number p behind others": [1, 0, 3, 0, 1, 5],
    "more numbers than there are": [6, 0, 1, 2, 3, 4, 5, 1, 0],
    "largest number": [1, LARGEST, 1, 0],
    "400 zeros": [0] * 400,
    "400 ones": [1] * 400,
    "400 of the largest": [LARGEST] * 400,
}

# Rows that are no set of numbers for p = 5, and why.
BAD_SETS = {
    "nothing": [],
    "number p": [5],
    "number above p": [6],
    "largest number": [LARGEST],
    "number p behind others": [0, 1, 5],
    "largest number behind others": [0, 1, LARGEST],
    "more numbers than there are": [0, 1, 2, 3, 4, 5],
    "falls": [1, 0],
    "falls from p": [5, 0],
    "falls at its end": [0, 2, 1],
    "falls at its start": [1, 0, 2],
    "two alike": [3, 3],
    "two zeros": [0, 0],
    "two alike at its end": [0, 1, 4, 4],
    "two alike at its start": [0, 0, 1],
    "400 zeros": [0] * 400,
    "400 ones": [1] * 400,
    "400 that rise": list(range(400)),
    "400 that rise to the largest": list(range(LARGEST - 399, LARGEST + 1)),
    "400 of the largest": [LARGEST] * 400,
}


def short_rows():
    """p, every short row, and whether it is a set of numbers below p."""
    for p, longest in ((2, 5), (3, 5), (5, 4), (7, 4)):
        right = set(subsets_of(p))
        for row in words(range(p + 2), longest):
            yield p, row, tuple(row) in right


def short_grids():
    """p, n, every short row, and its numbers for each unknown, None if it is no grid."""
    for p, n, longest in ((2, 1, 5), (2, 2, 6), (2, 3, 7), (3, 1, 5), (3, 2, 7), (3, 3, 7)):
        right = grids_of(p, n)
        for g in words((0, 1, 2, 3), longest):
            yield p, n, g, right.get(tuple(g))


class SetRefusals:
    """What a call refuses of p and a set of numbers; ask(p, row) is the call with all else right, told
    by the class that draws on this."""

    def test_p(self):
        for p in BAD_PRIMES:
            for row in ([0], [0, 1], [1], [], [0] * 400, [LARGEST]):
                self.assertEqual(self.ask(p, row), REFUSED, (p, row))

    def test_the_set(self):
        for why, row in BAD_SETS.items():
            self.assertEqual(self.ask(5, row), REFUSED, why)

    def test_as_many_as_there_are_and_one_more(self):
        for p in (2, 3, 5, 7):
            self.assertNotEqual(self.ask(p, list(range(p))), REFUSED, p)
            self.assertEqual(self.ask(p, list(range(p + 1))), REFUSED, p)
            self.assertNotEqual(self.ask(p, [p - 1]), REFUSED, p)
            self.assertEqual(self.ask(p, [p]), REFUSED, p)

    def test_every_short_row(self):
        for p, row, right in short_rows():
            self.assertEqual(self.ask(p, row) != REFUSED, right, (p, row))


class PolynomialRefusals:
    """What a call refuses of p, n and a polynomial; ask(p, n, row) is the call with all else right (as
    far as it can be, if n isn't), told by the class that draws on this."""

    def test_p(self):
        for p in BAD_PRIMES:
            self.assertEqual(self.ask(p, 1, [1, 0]), REFUSED, p)
            self.assertEqual(self.ask(p, 1, []), REFUSED, p)

    def test_n(self):
        for n in BAD_COUNTS:
            self.assertEqual(self.ask(5, n, []), REFUSED, n)
            self.assertEqual(self.ask(5, n, [1, 0]), REFUSED, n)
            self.assertEqual(self.ask(5, n, [1] + [0] * min(n, 399)), REFUSED, n)

    def test_f(self):
        for why, f in BAD_POLYNOMIALS.items():
            self.assertEqual(self.ask(5, 2, f), REFUSED, why)

    def test_order_of_terms(self):
        for n, low, high in (
            (2, [1, 0, 1], [2, 1, 0]),
            (2, [1, 2, 0], [2, 0, 3]),
            (3, [1, 1, 0, 1], [2, 1, 1, 0]),
            (3, [1, 0, 2, 0], [2, 1, 0, 1]),
            (3, [1, 12, 11, 12], [1, 12, 12, 11]),
        ):
            self.assertNotEqual(self.ask(5, n, low + high), REFUSED, (low, high))
            self.assertEqual(self.ask(5, n, high + low), REFUSED, (low, high))

    def test_every_short_polynomial(self):
        for p, n, letters, terms in (
            (2, 1, (0, 1, 2, 12, 13), 3),
            (3, 1, (0, 1, 2, 3), 3),
            (3, 2, (0, 1, 2, 3), 2),
            (2, 3, (0, 1, 2), 2),
        ):
            right = polynomials_of(p, n, letters, terms)
            for f in words(letters, terms * (n + 1)):
                self.assertEqual(self.ask(p, n, f) == REFUSED, tuple(f) not in right, (p, n, f))


class GridRefusals(PolynomialRefusals):
    """What a call with p, n, f and g refuses; the call is told by the class that draws on this."""

    def ask(self, p, n, f):
        return self.call(p, n, f, [1, 1] * min(n, 200))

    def test_g(self):
        for why, g in BAD_GRIDS.items():
            self.assertEqual(self.call(5, 2, [1, 0, 0], g), REFUSED, why)
            self.assertEqual(self.call(5, 2, [], g), REFUSED, why)

    def test_several_at_once(self):
        for p, n in itertools.product((6, LARGEST, 5), (0, LARGEST, 2)):
            for f in ([0, 1, 1], [LARGEST] * 400, [1, 0, 0]):
                for g in ([], [LARGEST] * 400, [1, 0, 1, 0]):
                    right = (p, n, f, g) == (5, 2, [1, 0, 0], [1, 0, 1, 0])
                    self.assertEqual(self.call(p, n, f, g) != REFUSED, right, (p, n, f, g))

    def test_every_short_grid(self):
        for p, n, g, numbers in short_grids():
            refused = self.call(p, n, [1] + [0] * n, g) == REFUSED
            self.assertEqual(refused, numbers is None, (p, n, g))


class AnyHanded:
    """That a call leaves what is handed in, keeps nothing and gives back whole numbers; the call and
    what is handed to it (CALLS) are told by the class that draws on this."""

    def test_lists_stay_as_they_were(self):
        for given in self.CALLS:
            for kind in (Untouchable, list):
                handed = copied(given, kind)
                self.call(*handed)
                self.assertEqual(handed, list(given))

    def test_one_list_as_each_of_them(self):
        for given in self.CALLS:
            for row in lists_of(given):
                for kind in (Untouchable, list):
                    one = kind(row)
                    handed = [one if isinstance(part, list) else part for part in given]
                    self.assertEqual(self.call(*handed), self.call(*copied(handed, list)), handed)
                    self.assertEqual(one, row)

    def test_nothing_is_kept(self):
        for given in self.CALLS:
            first = self.call(*copied(given, list))
            kept = list(first)
            first.append(99)
            self.assertEqual(self.call(*copied(given, list)), kept)

    def test_the_answer_is_none_of_the_lists_handed_in(self):
        for given in self.CALLS:
            answer = self.call(*given)
            self.assertFalse(any(answer is row for row in lists_of(given)), given)

    def test_one_list_of_whole_numbers(self):
        for given in self.CALLS:
            answer = self.call(*given)
            self.assertIs(type(answer), list)
            self.assertEqual({type(number) for number in answer}, {int})
            self.assertTrue(answer in ([-22], [-33]) or min(answer) >= 0, given)


def copied(given, kind):
    """What is handed in, each list as one of its own of this kind."""
    return [kind(part) if isinstance(part, list) else part for part in given]


def lists_of(given):
    return [part for part in given if isinstance(part, list)]


class GridHanded(AnyHanded):
    """The same of a call with p, n, f and g."""

    CALLS = (
        (5, 2, [4, 0, 0, 1, 1, 1], [2, 1, 2, 2, 1, 3]),
        (5, 2, [4, 0, 0, 1, 1, 1], [1, 2, 1, 3]),
        (5, 2, [], [1, 2, 1, 3]),
        (7, 3, [6, 0, 0, 0, 3, 12, 12, 12], [7, 0, 1, 2, 3, 4, 5, 6, 1, 3, 2, 1, 6]),
        (5, 2, [4, 0, 0, 1, 1, 1], [2, 2, 1, 2, 1, 3]),
        (5, 2, [4, 0, 0, 1, 1, 1], [2, 1, 2, 2, 1]),
        (5, 2, [1, 1, 1, 4, 0, 0], [2, 1, 2, 2, 1, 3]),
        (6, 2, [4, 0, 0, 1, 1, 1], [2, 1, 2, 2, 1, 3]),
        (5, 0, [4, 0, 0, 1, 1, 1], [2, 1, 2, 2, 1, 3]),
        (5, 2, [LARGEST] * 400, [LARGEST] * 400),
    )
