"""Rows of marks in their least form."""


def least_row(head, cycle):
    """The least form of the row that has the head and then the cycle for ever."""
    again = (cycle + cycle).find(cycle, 1)
    kept = len(head)
    while kept > 0 and head[kept - 1] == cycle[(kept - 1 - len(head)) % again]:
        kept -= 1
    # What the head gives up is the end of a round, so the cycle begins that much earlier.
    start = (kept - len(head)) % again
    return (head[:kept], cycle[start:again] + cycle[:start])


def first_mark(row):
    """The first mark of a row."""
    head, cycle = row
    return head[0] if head else cycle[0]


def shifted(row):
    """The row without its first mark."""
    head, cycle = row
    if head:
        return (head[1:], cycle)
    return ("", cycle[1:] + cycle[:1])
