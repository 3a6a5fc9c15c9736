"""Star words and their addresses."""

from twicedial.errors import NotWord, TooMany

MOST_CHARACTERS = 24
MOST_LISTED = 12


def check_word(value):
    """The value itself, if it is a star word."""
    if not isinstance(value, str) or not 1 <= len(value) <= MOST_CHARACTERS:
        raise NotWord(-1)
    for at, character in enumerate(value):
        if character not in _allowed(at, len(value)):
            raise NotWord(at)
    return value


def star_words(count):
    """All star words with so many characters, ascending."""
    if count > MOST_LISTED:
        raise TooMany(MOST_LISTED)
    if count == 1:
        return ("*",)
    beginnings = ["1"]
    for _ in range(count - 2):
        beginnings = [begun + character for begun in beginnings for character in "01"]
    return tuple([begun + "*" for begun in beginnings])


def next_unlike(marks, m):
    """The least k above m whose mark differs from mark number k - m, or None."""
    count = len(marks)
    # Behind one round of the marks the same comparisons come again.
    for k in range(m + 1, m + count + 1):
        if marks[(k - 1) % count] != marks[(k - m - 1) % count]:
            return k
    return None


def address(marks):
    """The numbers from 1 on, each the next unlike one of the last, up to the number of marks."""
    numbers = []
    m = 1
    while m is not None and m <= len(marks):
        numbers.append(m)
        m = next_unlike(marks, m)
    return tuple(numbers)


def word_of_address(numbers):
    """The star word that has these numbers as its address."""
    marks = "1"
    for m, k in zip(numbers, numbers[1:]):
        while len(marks) < k - 1:
            marks += marks[len(marks) - m]
        marks += _other(marks[k - 1 - m])
    return marks[:-1] + "*"


def upper_mark(word):
    """The mark in place of the "*" that keeps the length of the word in the address."""
    count = len(word)
    return "1" if count in address(word[:-1] + "1") else "0"


def _allowed(at, count):
    """The characters that may stand at an index of a star word of so many characters."""
    if at == count - 1:
        return ("*",)
    return ("1",) if at == 0 else ("0", "1")


def _other(character):
    return "0" if character == "1" else "1"
