"""What is shared where things are counted: powers, what is no power, and the row with a number."""

from ropesheld.signs import signs_of


def power(base, many):
    """A number so many times multiplied by itself."""
    found = 1
    for _ in range(many):
        found *= base
    return found


def divisors_of(number):
    """All numbers that divide a number from 1 on, ascending."""
    return [part for part in range(1, number + 1) if number % part == 0]


def prime_sign(number):
    """0 if the square of a number from 2 on divides a number, else 1 or -1 for evenly or oddly many primes."""
    found, left, prime = 1, number, 2
    while left > 1:
        if left % prime == 0:
            left //= prime
            found = 0 if left % prime == 0 else -found
            while left % prime == 0:
                left //= prime
        prime += 1
    return found


def many_unlike_turns(length, many_of):
    """How many rings of so many signs are no power of another one, if of each length there are so many rows."""
    whole = sum([prime_sign(part) * many_of(length // part) for part in divisors_of(length)])
    return whole // length


def signs_behind(posts, row):
    """The signs, in order, that may stand behind a reduced row."""
    return [sign for sign in signs_of(posts) if row == "" or sign != row[-1].swapcase()]


def numbered_row(posts, length, number, many_behind):
    """The reduced row of a length with a number, in order of rows, or None.

    It is told for each beginning of a row how many rows of so many signs more begin so.
    """
    if number >= many_behind("", length):
        return None
    row, rest = "", number
    while len(row) < length:
        signs, left, at = signs_behind(posts, row), length - len(row) - 1, 0
        many = many_behind(row + signs[at], left)
        while rest >= many:
            rest, at = rest - many, at + 1
            many = many_behind(row + signs[at], left)
        row += signs[at]
    return row


def number_among(posts, row, many_behind):
    """The number of a reduced row among those of its length, in order of rows."""
    number = 0
    for at, sign in enumerate(row):
        signs = signs_behind(posts, row[:at])
        for lesser in signs[:signs.index(sign)]:
            number += many_behind(row[:at] + lesser, len(row) - at - 1)
    return number
