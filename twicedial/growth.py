"""How fast trees grow: polynomials of tables, and their greatest real roots."""

from math import gcd

from twicedial.errors import TooMany
from twicedial.tables import way_table
from twicedial.trees import tree_of_word

MOST_ROWS = 20


def polynomial(table):
    """The coefficients of the determinant of x times the unit table minus the table, from the constant on."""
    count = len(table)
    if count > MOST_ROWS:
        raise TooMany(MOST_ROWS)
    found = [1]
    # This is the way of Faddeev and LeVerrier, on which no division leaves a rest.
    made = [[0] * count for _ in range(count)]
    for k in range(1, count + 1):
        for i in range(count):
            made[i][i] += found[-1]
        made = [[_product_sum(row, column) for column in zip(*made)] for row in table]
        found.append(-sum([made[i][i] for i in range(count)]) // k)
    return tuple(found[::-1])


def compare_growth(f, g):
    """-1, 0 or 1, as the growth of f is less than, equal to or greater than that of g."""
    chains = (_chain(f), _chain(g), _chain(_common(f, g)))
    low, high, bits = 1, max(_bound(f), _bound(g)), 0
    counts = [_roots_above(chain, low, bits) for chain in chains]
    while counts[0] > 0 and counts[1] > 0:
        if counts == [1, 1, 1]:
            # Each of both has one root that is left, and a root that both have is left, too.
            return 0
        if high - low == 1:
            low, high, bits = 2 * low, 2 * high, bits + 1
        middle = (low + high) // 2
        beyond = [_roots_above(chain, middle, bits) for chain in chains]
        if beyond[0] == 0 and beyond[1] == 0:
            high = middle
        else:
            low, counts = middle, beyond
    if counts[0] == counts[1]:
        return 0
    return 1 if counts[0] > 0 else -1


def growth_floor(f, bits):
    """The greatest integer that is not above the growth of f times 2 to the power bits."""
    chain = _chain(f)
    low, high = 1 << bits, _bound(f) << bits
    while high - low > 1:
        middle = (low + high) // 2
        if _value_at(f, middle, bits) == 0 or _roots_above(chain, middle, bits) > 0:
            low = middle
        else:
            high = middle
    return low


def growth_polynomial(word):
    """The polynomial of the table of ways of the tree of the word."""
    return polynomial(way_table(tree_of_word(word)))


def _product_sum(row, column):
    return sum([a * b for a, b in zip(row, column)])


def _bound(f):
    """An integer above 1 and above all real roots of f."""
    return 1 + max([abs(c) for c in f])


def _chain(f):
    """Sturm's chain of the polynomial that has each root of f just once."""
    rows = [list(f)]
    after = [k * f[k] for k in range(1, len(f))]
    while after:
        rows.append(after)
        after = [-c for c in _rest(rows[-2], after)]
    # The last row has the roots that f has several times.
    return [_quotient(row, rows[-1]) for row in rows]


def _common(f, g):
    """A polynomial with the roots that f and g have in common."""
    while g:
        f, g = g, _rest(f, g)
    return f


def _roots_above(chain, top, bits):
    """How many real roots are above top / 2^bits."""
    here = [_value_at(row, top, bits) for row in chain]
    far = [row[-1] for row in chain]
    return _changes(here) - _changes(far)


def _changes(values):
    """How often the sign changes from one value other than 0 to the next one."""
    signs = [value > 0 for value in values if value != 0]
    return len([k for k in range(1, len(signs)) if signs[k] != signs[k - 1]])


def _value_at(f, top, bits):
    """The value of f at top / 2^bits, times a positive integer."""
    value = 0
    scale = 1
    for c in reversed(f):
        value = value * top + c * scale
        scale <<= bits
    return value


def _rest(f, g):
    """What dividing f by g leaves, times a positive ratio; empty if it leaves nothing."""
    return _divided(f, g)[1]


def _quotient(f, g):
    """f divided by g, times a positive ratio."""
    return _divided(f, g)[0]


def _divided(f, g):
    """The quotient and the rest of f divided by g, each times a positive ratio."""
    rest = list(f)
    quotient = []
    scale = abs(g[-1])
    for shift in range(len(f) - len(g), -1, -1):
        lead = rest.pop() if g[-1] > 0 else -rest.pop()
        rest = [scale * c for c in rest]
        for k in range(len(g) - 1):
            rest[shift + k] -= lead * g[k]
        quotient = [lead] + [scale * c for c in quotient]
    return (_shortened(quotient), _shortened(rest))


def _shortened(f):
    """The coefficients without zeros behind and without a common divisor."""
    count = len(f)
    while count > 0 and f[count - 1] == 0:
        count -= 1
    common = 0
    for c in f:
        common = gcd(common, c)
    return [c // common for c in f[:count]]
