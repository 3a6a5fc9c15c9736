"""The middles of three rows, in the tree of a star word."""

from twicedial.rowforms import first_mark, least_row, shifted


def rounds(word):
    """The row of the word repeated for ever, begun at each of its characters."""
    return tuple([("", word[k:] + word[:k]) for k in range(len(word))])


def middle(word, r, s, u):
    """The row at which the paths between three corners of the tree of the word meet."""
    rows = (r, s, u)
    begun = {}
    marks = ""
    while rows not in begun:
        last = _last_row(rows)
        if last is not None:
            head, cycle = last
            return least_row(marks + head, cycle)
        begun[rows] = len(marks)
        mark = _common_mark(rows)
        marks += mark
        rows = tuple([shifted(row) if first_mark(row) in (mark, "*") else ("", word) for row in rows])
    return least_row(marks[:begun[rows]], marks[begun[rows]:])


def is_between(word, r, v, s):
    """Whether the corner v lies on the path between the corners r and s."""
    return middle(word, r, v, s) == v


def _last_row(rows):
    """The row that ends the marks of a middle, or None if a mark is to be written instead."""
    r, s, u = rows
    if r in (s, u):
        return r
    if s == u:
        return s
    firsts = "".join([first_mark(row) for row in rows])
    if "*" in firsts and "0" in firsts and "1" in firsts:
        return rows[firsts.index("*")]
    return None


def _common_mark(rows):
    """The mark with which most of three rows begin, where a "*" goes with any mark."""
    firsts = [first_mark(row) for row in rows]
    return "1" if firsts.count("1") > firsts.count("0") else "0"
