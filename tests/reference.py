"""A second reckoning of what the calls answer, written apart from the program."""

import itertools

LARGEST = 4294967295


class Untouchable(list):
    """A list that fails the test as soon as somebody changes it, even for a while."""

    def refuse(self, *args, **kwargs):
        raise AssertionError("a list that was handed in was changed")

    append = clear = extend = insert = pop = remove = reverse = sort = refuse
    __setitem__ = __delitem__ = __iadd__ = __imul__ = refuse


def polynomial_row(terms):
    """The row of the polynomial told as a dict from exponents to factor."""
    row = []
    for times in sorted(terms, key=lambda times: (sum(times), times)):
        row += [terms[times], *times]
    return row


def polynomials_of(p, n, letters, most):
    """Every row of a polynomial that has only such letters and at most so many terms."""
    all_times = list(itertools.product([k for k in letters if k <= 12], repeat=n))
    factors = [k for k in letters if 1 <= k < p]
    found = set()
    for size in range(most + 1):
        for chosen in itertools.combinations(all_times, size):
            for given in itertools.product(factors, repeat=size):
                found.add(tuple(polynomial_row(dict(zip(chosen, given)))))
    return found


def grid_row(numbers_by_unknown):
    row = []
    for numbers in numbers_by_unknown:
        row += [len(numbers), *numbers]
    return row


def subsets_of(p):
    return [
        chosen
        for size in range(1, p + 1)
        for chosen in itertools.combinations(range(p), size)
    ]


def grids_of(p, n):
    """Every grid, from its row to its numbers for each unknown."""
    return {
        tuple(grid_row(numbers)): numbers
        for numbers in itertools.product(subsets_of(p), repeat=n)
    }


def value(p, terms, point):
    total = 0
    for times, factor in terms.items():
        product = factor
        for number, exponent in zip(point, times):
            product *= number ** exponent
        total += product
    return total % p


def first_point(p, n, terms, numbers_by_unknown):
    for point in itertools.product(*numbers_by_unknown):
        if value(p, terms, point):
            return [n, *point]
    return [-33]


def some_terms(random, p, n, most_terms, most_times):
    terms = {}
    for turn in range(random.randint(0, most_terms)):
        times = tuple(random.randint(0, most_times) for k in range(n))
        terms[times] = random.randint(1, p - 1)
    return terms


def some_numbers(random, p, n):
    return [sorted(random.sample(range(p), random.randint(1, p))) for k in range(n)]


def words(letters, longest):
    """Every list of at most so many of these letters."""
    for size in range(longest + 1):
        for word in itertools.product(letters, repeat=size):
            yield list(word)


# Rows that are no polynomial for p = 5 and n = 2, and why.
BAD_POLYNOMIALS = {
    "a number too few": [1, 0],
    "a number too many": [1, 0, 0, 1],
    "second term too short": [1, 0, 0, 1, 1],
    "factor 0": [0, 1, 1],
    "factor p": [5, 1, 1],
    "factor above p": [6, 1, 1],
    "largest factor": [LARGEST, 1, 1],
    "factor 0 in the second term": [1, 0, 0, 0, 1, 1],
    "factor p in the second term": [1, 0, 0, 5, 1, 1],
    "first unknown 13 times": [1, 13, 0],
    "second unknown 13 times": [1, 0, 13],
    "first unknown as often as can be": [1, LARGEST, 0],
    "second unknown as often as can be": [1, 0, LARGEST],
    "greater degree first": [1, 1, 1, 1, 0, 1],
    "greater degree first, lesser first unknown": [1, 0, 2, 1, 1, 0],
    "like degree, first unknown falls": [1, 1, 0, 1, 0, 1],
    "alike": [1, 1, 1, 1, 1, 1],
    "alike but for the factor": [1, 1, 1, 2, 1, 1],
    "alike constants": [1, 0, 0, 4, 0, 0],
    "400 zeros": [0] * 400,
    "399 ones, alike terms": [1] * 399,
    "400 of the largest": [LARGEST] * 400,
    "399 of the largest": [LARGEST] * 399,
}

BAD_PRIMES = (0, 1, 4, 6, 8, 9, 11, 13, LARGEST - 4, LARGEST)
BAD_COUNTS = (0, 4, 5, 399, 400, LARGEST)
