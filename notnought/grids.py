"""Polynomials modulo a small prime, and their values on grids."""

PRIMES = (2, 3, 5, 7)
MOST_UNKNOWNS = 3
MOST_TIMES = 12

NOT_AS_TOLD = -22
NOUGHT_ON_ALL = -33


def coefficient(p, n, f, t):
    """The factor of the term of f in which each unknown stands as often as t tells."""
    if not has_sizes(p, n) or not is_polynomial(p, n, f) or len(t) != n:
        return [NOT_AS_TOLD]
    for term in terms_of(n, f):
        if term[1:] == t:
            return [term[0]]
    return [0]


def somewhere(p, n, f, g):
    """n, then the first point of grid g at which f is not 0."""
    if not has_sizes(p, n) or not is_polynomial(p, n, f) or not is_grid(p, n, g):
        return [NOT_AS_TOLD]
    terms = terms_of(n, f)
    for point in points_of(g):
        if value_at(p, terms, point) != 0:
            return [n] + point
    return [NOUGHT_ON_ALL]


def has_sizes(p, n):
    """Whether p is one of the primes and n a number of unknowns."""
    return p in PRIMES and 1 <= n and n <= MOST_UNKNOWNS


def terms_of(n, f):
    """The terms of f, each its factor and then how often each unknown stands in it."""
    return [f[start:start + n + 1] for start in range(0, len(f), n + 1)]


def is_polynomial(p, n, f):
    """Whether f is whole terms, each as told, in their order."""
    if len(f) % (n + 1) != 0:
        return False
    # The empty list stands ahead of every place, so the first term needs no case of its own.
    before = []
    for term in terms_of(n, f):
        place = place_of(term)
        # Two terms that are alike have the same place, so this refuses them too.
        if not is_term(p, term) or not before < place:
            return False
        before = place
    return True


def is_term(p, term):
    """Whether the factor is 1 to p - 1 and no unknown stands too often in the term."""
    return 1 <= term[0] and term[0] < p and max(term[1:]) <= MOST_TIMES


def place_of(term):
    """What a term is ordered by: its degree, then how often each unknown stands in it."""
    times = term[1:]
    return [sum(times)] + times


def rows_of(g):
    """The rows of g, each behind its count; the last one is too short if g ends too early."""
    rows = []
    start = 0
    while start < len(g):
        end = start + 1 + g[start]
        rows.append(g[start:end])
        start = end
    return rows


def is_grid(p, n, g):
    """Whether g is n rows, each as told."""
    rows = rows_of(g)
    return len(rows) == n and all([is_row(p, row) for row in rows])


def is_row(p, row):
    """Whether the row has as many numbers as its count tells, and these are as told."""
    return len(row) == 1 + row[0] and is_rising(p, row[1:])


def is_rising(p, numbers):
    """Whether these are numbers below p, rising, one at least."""
    before = -1
    for number in numbers:
        if number <= before or number >= p:
            return False
        before = number
    return len(numbers) > 0


def points_of(g):
    """The points of grid g, by the first unknown's number, then by the second's, and so on."""
    points = [[]]
    for row in rows_of(g):
        longer = []
        for point in points:
            for number in row[1:]:
                longer.append(point + [number])
        points = longer
    return points


def value_at(p, terms, point):
    """What all terms come to at the point."""
    value = 0
    for term in terms:
        value = (value + term_value(p, term, point)) % p
    return value


def term_value(p, term, point):
    """The factor times each unknown's number, as often as the unknown stands in the term."""
    product = term[0]
    for number, times in zip(point, term[1:]):
        for turn in range(times):
            product = product * number % p
    return product
