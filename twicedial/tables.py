"""Tables of integers that belong to a folded tree."""

from twicedial.trees import path


def way_table(tree):
    """For each way, the ways on the path to which the walk leads it."""
    walk = tree[2]
    return tuple([_path_entries(tree, walk[a], walk[b]) for a, b in tree[1]])


def pair_table(word):
    """For each pair of rounds, the pairs to which it is led, folded at the "*"."""
    listed = _number_pairs(len(word))
    return tuple([_entries(listed, _pairs_led(word, i, j)) for i, j in listed])


def path_table(tree):
    """For each pair of rounds, the ways on the path between both."""
    # The first corner is the word for ever, and there are as many rounds as it has characters.
    _, word = tree[0][0]
    return tuple([_path_entries(tree, i, j) for i, j in _number_pairs(len(word))])


def _path_entries(tree, i, j):
    """For each way, 1 if it lies on the path from the corner i to the corner j, and 0 otherwise."""
    corners = path(tree, i, j)
    return _entries(tree[1], [_ascending(a, b) for a, b in zip(corners, corners[1:])])


def _entries(listed, found):
    """For each of the listed pairs, 1 if it is among the found ones, and 0 otherwise."""
    return tuple([1 if pair in found else 0 for pair in listed])


def _number_pairs(count):
    """All pairs of two numbers below the count, ascending."""
    return [(i, j) for i in range(count) for j in range(i + 1, count)]


def _pairs_led(word, i, j):
    """The pairs of rounds that make up the path to which the path between two rounds is led."""
    after_i, after_j = (i + 1) % len(word), (j + 1) % len(word)
    if word[i] == word[j] or "*" in (word[i], word[j]):
        return [_ascending(after_i, after_j)]
    # Neither mark is the "*", the last one, so neither of the numbers behind is 0.
    return [(0, after_i), (0, after_j)]


def _ascending(i, j):
    return (i, j) if i < j else (j, i)
