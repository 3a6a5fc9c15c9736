"""Middle words on a line: their tables, polynomials and laps."""

from itertools import accumulate

from twicedial.errors import TooMany
from twicedial.middles import rounds
from twicedial.middlewords import check_middle, turned_order
from twicedial.rowforms import shifted

MOST_MARKS = 60


def line_table(word):
    """For each two neighbours among the rounds, the neighbours within the stretch to which they are led."""
    check_middle(word)
    own = rounds(word)
    ranks = {row: len([other for other in own if turned_order(other, row) < 0]) for row in own}
    line = sorted(own, key=lambda row: ranks[row])
    after = [ranks[shifted(row)] for row in line]
    return tuple([_stretch_entries(i, j, len(word) - 1) for i, j in zip(after, after[1:])])


def line_polynomial(word):
    """The coefficients, from the constant on, with the signs of the beginnings of the word."""
    check_middle(word)
    return tuple(_beginning_signs(word)[::-1])


def lap_counts(word, most):
    """The numbers of laps with 1, 2 and so on up to most marks."""
    check_middle(word)
    if most > MOST_MARKS:
        raise TooMany(MOST_MARKS)
    # L(x) is 1 / (1 - x) and (1 - x^n) / P(x) / (1 - x)^2 together, and dividing by 1 - x makes sums.
    quotient = _begun_quotient(_beginning_signs(word), most)
    sums = list(accumulate(quotient))
    return tuple([1 + count for count in accumulate(sums)])


def _stretch_entries(i, j, count):
    """For each two neighbours on the line, 1 if they lie between the numbers i and j, and 0 otherwise."""
    low, high = min(i, j), max(i, j)
    return tuple([1 if low <= k < high else 0 for k in range(count)])


def _beginning_signs(word):
    """For each k below the length of the word, 1 if its first k characters have an even number of "1", else -1."""
    return [-1 if word[:k].count("1") % 2 == 1 else 1 for k in range(len(word))]


def _begun_quotient(signs, most):
    """The first coefficients of 1 - x^n divided by the polynomial with the n signs as coefficients."""
    count = len(signs)
    quotient = []
    for k in range(most):
        left = 1 if k == 0 else -1 if k == count else 0
        quotient.append(left - sum([signs[j] * quotient[k - j] for j in range(1, min(k + 1, count))]))
    return quotient
