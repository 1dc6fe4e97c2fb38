"""Basic rows: plain rows that are less than all their ends, and the ropes that are made of them."""

from ropesheld.counts import many_unlike_turns, power
from ropesheld.errors import InvalidRow
from ropesheld.series import check_plain, commutator
from ropesheld.signs import POSTS


def is_basic(plain):
    """Whether a plain row is basic."""
    check_plain(plain)
    return plain != "" and all([plain < plain[at:] for at in range(1, len(plain))])


def basics(posts, degree):
    """The basic rows of so many signs of the first posts, ascending."""
    return tuple(basic_rows(POSTS[:posts], degree))


def basic_rows(posts, degree):
    """The basic rows of so many signs of told posts, ascending."""
    found, row = [], posts[:1]
    # Each basic row of at most so many signs comes of the one ahead of it: that is repeated to the full length, the
    # last posts at the end go, and the next post stands for the last sign that is left.
    while row:
        if len(row) == degree:
            found.append(row)
        row = (row * degree)[:degree].rstrip(posts[-1])
        if row:
            row = row[:-1] + posts[posts.index(row[-1]) + 1]
    return found


def many_basics(posts, degree):
    """How many basic rows of so many signs there are."""
    return many_unlike_turns(degree, lambda length: power(posts, length)) if degree else 0


def check_basic(plain, least):
    """Raise InvalidRow for any value that is no basic row of so many signs at least."""
    if not is_basic(plain) or len(plain) < least:
        raise InvalidRow(0)


def basic_halves(plain):
    """The pair of a row and the rest, so that the rest is the longest basic end of a basic row but itself."""
    check_basic(plain, 2)
    at = 1
    while not is_basic(plain[at:]):
        at += 1
    return plain[:at], plain[at:]


def basic_rope(plain):
    """The rope of a basic row: its sign, or the commutator of the ropes of its halves."""
    check_basic(plain, 1)
    if len(plain) == 1:
        return plain
    one, other = basic_halves(plain)
    return commutator(basic_rope(one), basic_rope(other))
