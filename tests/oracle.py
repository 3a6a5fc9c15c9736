"""Second ways to the same answers, with Python's fractions, for all tests."""

from fractions import Fraction
from functools import lru_cache
from math import gcd

from twicedial.errors import DialError

HALF = Fraction(1, 2)


def fraction(x):
    return Fraction(x[0], x[1])


def ratio(value):
    return (value.numerator, value.denominator)


def doubled(value):
    return 2 * value % 1


@lru_cache(maxsize=None)
def walk(value):
    """The orbit of a fraction and the index of its first entry that comes again."""
    seen = []
    while value not in seen:
        seen.append(value)
        value = doubled(value)
    return seen, seen.index(value)


def steps(x):
    """The way in and the period of a ratio, by walking."""
    seen, ahead = walk(fraction(x))
    return ahead, len(seen) - ahead


def all_places(most):
    """All places with a way in and a period of at most so many steps together, ascending."""
    found = {Fraction(0)}
    for ahead in range(most):
        for again in range(1, most - ahead + 1):
            bottom = 2 ** ahead * (2 ** again - 1)
            found.update(Fraction(top, bottom) for top in range(bottom))
    return [ratio(value) for value in sorted(found)]


def going_up(a, b):
    """The fraction of the ring from a up to b."""
    return (fraction(b) - fraction(a)) % 1


def lies_within(a, x, b):
    return 0 < going_up(a, x) < going_up(a, b)


def chords_cross(c, d):
    if set(c) & set(d):
        return False
    inside = [c[0] < end < c[1] for end in d]
    return inside[0] != inside[1]


def rotations(values):
    return [values[k:] + values[:k] for k in range(len(values))]


def within_a_gap(members, others):
    """Whether all members lie in one gap of the others."""
    if set(members) & set(others):
        return False
    if len(others) == 1:
        return True
    around = [(others[k - 1], others[k]) for k in range(len(others))]
    return any(all(lies_within(a, x, b) for x in members) for a, b in around)


def pairs_made(most):
    """The pairs of periods from 2 to most, made as the document tells it, ascending."""
    made = []
    partnered = set()
    for again in range(2, most + 1):
        bottom = 2 ** again - 1
        returning = [Fraction(top, bottom) for top in range(1, bottom)]
        returning = [x for x in returning if len(walk(x)[0]) == again]
        for at, a in enumerate(returning):
            if a in partnered:
                continue
            for b in returning[at + 1:]:
                if b not in partnered and not any(chords_cross((a, b), c) for c in made):
                    made.append((a, b))
                    partnered.update((a, b))
                    break
    return [(ratio(a), ratio(b)) for a, b in sorted(made)]


def written_out(row, count):
    """The first marks of a row."""
    head, cycle = row
    return (head + cycle * (count // len(cycle) + 1))[:count]


def plain_mark(t, x):
    low, high = t / 2, t / 2 + HALF
    if x in (low, high):
        return "*"
    return "1" if low < x < high else "0"


@lru_cache(maxsize=None)
def plain_marks(t, x, count):
    """The first marks of x, doubled x and so on under t."""
    t, x = fraction(t), fraction(x)
    seen, ahead = walk(x)
    marks = "".join(plain_mark(t, y) for y in seen)
    return written_out((marks[:ahead], marks[ahead:]), count)


@lru_cache(maxsize=None)
def inner_mark_of(t, x, is_upper):
    """The inner mark of x under t; is_upper tells whether a returning t is the greater of its pair."""
    after = doubled(fraction(x))
    if walk(fraction(t))[1] == 0:
        if after == fraction(t):
            return "1" if (fraction(x) >= HALF) != is_upper else "0"
    # So many marks tell two of these rows apart, as each one has at most 24 steps.
    elif plain_marks(t, ratio(after), 80) == plain_marks(t, t, 80):
        return "*"
    return plain_marks(t, x, 1)


@lru_cache(maxsize=None)
def inner_marks(t, x, count, is_upper):
    """The first inner marks of x, doubled x and so on under t."""
    seen, ahead = walk(fraction(x))
    marks = "".join(inner_mark_of(t, ratio(y), is_upper) for y in seen)
    return written_out((marks[:ahead], marks[ahead:]), count)


@lru_cache(maxsize=None)
def pairs_listed(most):
    """The pairs of periods from 2 to most as ratios, ascending, as a tuple that is made once."""
    return tuple(pairs_made(most))


def encloses(pair, x):
    """Whether a place lies strictly between the places of a pair."""
    return fraction(pair[0]) < fraction(x) < fraction(pair[1])


def classes_under(t, places, is_upper):
    """All classes under t of the places, each as a list in the sequence of the places."""
    found = {}
    for x in places:
        # So many marks tell two rows apart if the places have at most 10 steps.
        found.setdefault(inner_marks(t, x, 30, is_upper), []).append(x)
    return list(found.values())


def digits_of(x):
    """The head and the cycle of the binary digits of a ratio, by walking."""
    seen, ahead = walk(fraction(x))
    every = "".join("1" if y >= HALF else "0" for y in seen)
    return every[:ahead], every[ahead:]


def value_of(head, cycle):
    """The fraction with these binary digits."""
    ahead = Fraction(int("0" + head, 2), 2 ** len(head))
    return (ahead + Fraction(int(cycle, 2), (2 ** len(cycle) - 1) * 2 ** len(head))) % 1


def copy_of(pair, x):
    """The copy of a place as a fraction, from the digits."""
    low, high = (digits_of(end)[1] for end in pair)
    head, cycle = ("".join({"0": low, "1": high}[digit] for digit in part) for part in digits_of(x))
    return value_of(head, cycle)


def numbered(marks, k):
    """Mark number k, counted from 1 and going on for ever."""
    return (marks * k)[k - 1]


def unlike(marks, m):
    """next_unlike over so many marks that they surely repeat."""
    for k in range(m + 1, m + 3 * len(marks) + 1):
        if numbered(marks, k) != numbered(marks, k - m):
            return k
    return None


def addressed(marks):
    numbers = [1]
    while unlike(marks, numbers[-1]) is not None and unlike(marks, numbers[-1]) <= len(marks):
        numbers.append(unlike(marks, numbers[-1]))
    return tuple(numbers)


def turns(most):
    """All p and q with q from 2 to most, by q and then by p."""
    return [(p, q) for q in range(2, most + 1) for p in range(1, q) if gcd(p, q) == 1]


def is_plain(value):
    """Whether a value is made of integers, strings, True, False, None and tuples only."""
    if isinstance(value, tuple):
        return type(value) is tuple and all(is_plain(part) for part in value)
    return value is None or type(value) in (int, str, bool)


def error_of(called, *given):
    """The class of the error that a call raises, and all its attributes."""
    try:
        called(*given)
    except DialError as error:
        return type(error), vars(error)
    return None


def product_of(one, other):
    """The product of two tables."""
    columns = list(zip(*other))
    return [[sum(a * b for a, b in zip(row, column)) for column in columns] for row in one]


def multiplied(f, g):
    """The product of two polynomials, as the tuple of its coefficients from the constant on."""
    found = [0] * (len(f) + len(g) - 1)
    for i, a in enumerate(f):
        for j, b in enumerate(g):
            found[i + j] += a * b
    return tuple(found)


def value_at(f, x):
    """The value of a polynomial at an integer or a fraction."""
    return sum(c * x ** k for k, c in enumerate(f))


def turned(one, other):
    """-1, 0 or 1, as one of two strings of equally many marks is less, equal or greater in the turned order."""
    for k, (a, b) in enumerate(zip(one, other)):
        if a != b:
            greater = "0*1".index(a) > "0*1".index(b)
            return 1 if greater == (one[:k].count("1") % 2 == 0) else -1
    return 0
