"""Counting: how many reduced rows of a length there are, and how many classes of round ones."""

from ropesheld.counts import divisors_of, many_unlike_turns, number_among, numbered_row, power
from ropesheld.signs import check_row


def many_rows(posts, length):
    """How many reduced rows of a length there are on a board."""
    return 2 * posts * power(2 * posts - 1, length - 1) if length else 1


def many_behind(posts, row, left):
    """How many reduced rows of so many signs more begin with a reduced row."""
    return power(2 * posts - 1, left) if row else many_rows(posts, left)


def row_at(posts, length, number):
    """The reduced row of a length with a number, or None."""
    return numbered_row(posts, length, number, lambda row, left: many_behind(posts, row, left))


def number_of(posts, row):
    """The number of a reduced row among those of its length."""
    check_row(row, posts)
    return number_among(posts, row, lambda ahead, left: many_behind(posts, ahead, left))


def many_round(posts, length):
    """How many round rows of a length there are."""
    if length == 0:
        return 1
    # Closed ways on as many ties at one place, that never turn back at once, the last sign and the first one included.
    return power(2 * posts - 1, length) + 1 + (0 if length & 1 else 2 * (posts - 1))


def many_classes(posts, length):
    """How many classes of round rows of a length there are."""
    return sum([many_roots(posts, part) for part in divisors_of(length)])


def many_roots(posts, length):
    """How many classes of round rows of a length there are whose rows are their own roots."""
    return many_unlike_turns(length, lambda part: many_round(posts, part))
