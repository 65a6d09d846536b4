"""Polynomials modulo a small prime and their values on grids, and the sums of sets of numbers."""

PRIMES = (2, 3, 5, 7)
MOST_UNKNOWNS = 3
MOST_TIMES = 12

NOT_AS_TOLD = -22
NOUGHT_ON_ALL = -33


def coefficient(p, n, f, t):
    """The factor of the term of f in which each unknown stands as often as t tells."""
    if not has_sizes(p, n) or not is_polynomial(p, n, f) or len(t) != n:
        return [NOT_AS_TOLD]
    for term in terms_of(n, f):
        if term[1:] == t:
            return [term[0]]
    return [0]


def somewhere(p, n, f, g):
    """n, then the first point of grid g at which f is not 0."""
    if not are_as_told(p, n, f, g):
        return [NOT_AS_TOLD]
    terms = terms_of(n, f)
    for point in points_of(g):
        if value_at(p, terms, point) != 0:
            return [n] + point
    return [NOUGHT_ON_ALL]


def summed(p, n, f, g):
    """All values of f on grid g, each divided by its point's weight; then 1 if f's degree is low enough, else 0."""
    if not are_as_told(p, n, f, g):
        return [NOT_AS_TOLD]
    terms = terms_of(n, f)
    total = 0
    for point in points_of(g):
        value = value_at(p, terms, point)
        total = (total + value * inverse_of(p, point_weight(p, g, point))) % p
    highest = sum([count - 1 for count in counts_of(g)])
    return [total, 1 if degree_of(terms) <= highest else 0]


def sure(p, n, f, g):
    """1 if in a term of f's degree each unknown stands less often than g has numbers for it, else 0."""
    if not are_as_told(p, n, f, g):
        return [NOT_AS_TOLD]
    terms = terms_of(n, f)
    degree = degree_of(terms)
    counts = counts_of(g)
    for term in terms:
        if term_degree(term) == degree and is_within(term, counts):
            return [1]
    return [0]


def sums(p, a, b):
    """How many numbers are sums of one of a and one of b, then these, rising."""
    if p not in PRIMES or not is_rising(p, a) or not is_rising(p, b):
        return [NOT_AS_TOLD]
    found = []
    for first in a:
        found.extend([(first + second) % p for second in b])
    return counted(found)


def apart(p, a):
    """How many numbers are sums of two different ones of a, then these, rising."""
    if p not in PRIMES or not is_rising(p, a):
        return [NOT_AS_TOLD]
    found = []
    for first in a:
        found.extend([(first + second) % p for second in a if second != first])
    return counted(found)


def common(p, n, f, h):
    """At how many points both f and h are 0, then the numbers of these, rising."""
    if not has_sizes(p, n) or not is_polynomial(p, n, f) or not is_polynomial(p, n, h):
        return [NOT_AS_TOLD]
    terms = terms_of(n, f)
    others = terms_of(n, h)
    found = []
    for point in points_of(whole_grid(p, n)):
        if value_at(p, terms, point) == 0 and value_at(p, others, point) == 0:
            found.append(point_number(p, point))
    return counted(found)


def has_sizes(p, n):
    """Whether p is one of the primes and n a number of unknowns."""
    return p in PRIMES and 1 <= n and n <= MOST_UNKNOWNS


def are_as_told(p, n, f, g):
    """Whether p and n are as told, f is a polynomial and g a grid."""
    return has_sizes(p, n) and is_polynomial(p, n, f) and is_grid(p, n, g)


def terms_of(n, f):
    """The terms of f, each its factor and then how often each unknown stands in it."""
    return [f[start:start + n + 1] for start in range(0, len(f), n + 1)]


def is_polynomial(p, n, f):
    """Whether f is whole terms, each as told, in their order."""
    if len(f) % (n + 1) != 0:
        return False
    # The empty list stands ahead of every place, so the first term needs no case of its own.
    before = []
    for term in terms_of(n, f):
        place = place_of(term)
        # Two terms that are alike have the same place, so this refuses them too.
        if not is_term(p, term) or not before < place:
            return False
        before = place
    return True


def is_term(p, term):
    """Whether the factor is 1 to p - 1 and no unknown stands too often in the term."""
    return 1 <= term[0] and term[0] < p and max(term[1:]) <= MOST_TIMES


def place_of(term):
    """What a term is ordered by: its degree, then how often each unknown stands in it."""
    return [term_degree(term)] + term[1:]


def term_degree(term):
    """How many unknowns stand in the term, counted as often as they do."""
    return sum(term[1:])


def degree_of(terms):
    """The greatest degree of a term, 0 if there are none."""
    return max([0] + [term_degree(term) for term in terms])


def is_within(term, counts):
    """Whether each unknown stands less often in the term than its count tells."""
    return all([times < count for times, count in zip(term[1:], counts)])


def counted(numbers):
    """How many numbers there are, alike ones once, then these, rising."""
    different = sorted(set(numbers))
    return [len(different)] + different


def rows_of(g):
    """The rows of g, each behind its count; the last one is too short if g ends too early."""
    rows = []
    start = 0
    while start < len(g):
        end = start + 1 + g[start]
        rows.append(g[start:end])
        start = end
    return rows


def is_grid(p, n, g):
    """Whether g is n rows, each as told."""
    rows = rows_of(g)
    return len(rows) == n and all([is_row(p, row) for row in rows])


def is_row(p, row):
    """Whether the row has as many numbers as its count tells, and these are as told."""
    return len(row) == 1 + row[0] and is_rising(p, row[1:])


def is_rising(p, numbers):
    """Whether these are numbers below p, rising, one at least."""
    before = -1
    for number in numbers:
        if number <= before or number >= p:
            return False
        before = number
    return len(numbers) > 0


def counts_of(g):
    """How many numbers grid g has for each unknown."""
    return [row[0] for row in rows_of(g)]


def whole_grid(p, n):
    """The grid that has all numbers for each unknown."""
    return ([p] + list(range(p))) * n


def points_of(g):
    """The points of grid g, by the first unknown's number, then by the second's, and so on."""
    points = [[]]
    for row in rows_of(g):
        longer = []
        for point in points:
            for number in row[1:]:
                longer.append(point + [number])
        points = longer
    return points


def point_number(p, point):
    """x1, and p times x2, and p times p times x3, as far as the point has them."""
    total = 0
    for number in reversed(point):
        total = total * p + number
    return total


def value_at(p, terms, point):
    """What all terms come to at the point."""
    value = 0
    for term in terms:
        value = (value + term_value(p, term, point)) % p
    return value


def term_value(p, term, point):
    """The factor times each unknown's number, as often as the unknown stands in the term."""
    product = term[0]
    for number, times in zip(point, term[1:]):
        product = product * power_of(p, number, times) % p
    return product


def power_of(p, number, times):
    """The number multiplied so many times; 1 if none."""
    product = 1
    for turn in range(times):
        product = product * number % p
    return product


def inverse_of(p, number):
    """What the number, which isn't 0, is multiplied by to make 1."""
    # By Fermat the number multiplied p - 1 times makes 1, so one time less is what makes it 1.
    return power_of(p, number, p - 2)


def point_weight(p, g, point):
    """The product of the weights of all the point's numbers, each in its row of grid g."""
    product = 1
    for number, row in zip(point, rows_of(g)):
        product = product * number_weight(p, number, row[1:]) % p
    return product


def number_weight(p, number, numbers):
    """The product of the number less each other one; it isn't 0, as no two below p are alike modulo p."""
    product = 1
    for other in numbers:
        if other != number:
            product = product * (number - other) % p
    return product
