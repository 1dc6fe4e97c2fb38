"""Squares: rows whose squares, one behind another, are alike to a rope."""

from ropesheld.handles import ends_of, led, row_of, strips, turn_pairs
from ropesheld.pairings import best_pairing
from ropesheld.rows import alike, core, turned, windings
from ropesheld.signs import MOST_POSTS, check_row, is_row


def best_cut(word):
    """The pairing of a core that makes the fewest squares, and how many, or None if there is none."""
    if word == "":
        return (), 0
    # This is told at once, where trying all might take long.
    if any([many & 1 for many in windings(word, MOST_POSTS)]):
        return None
    half, found = len(word) // 2, []
    for loose in (True, False):
        best = best_pairing(word, loose)
        if best is not None:
            pairs, corners = best
            # Without a sign beside the same sign these are twice the handles, and one square more makes squares of all.
            found.append((pairs, half - corners + (1 if loose else 2)))
    return min(found, key=lambda pair: pair[1])


def squares(row):
    """The least number of rows whose squares, one behind another, are alike to a row, or None."""
    best = best_cut(core(row)[1])
    return None if best is None else best[1]


def square_rows(row):
    """Some tuple of as few rows as can be, whose squares, one behind another, are alike to a row, or None."""
    arm, word = core(row)
    best = best_cut(word)
    if best is None:
        return None
    return tuple([led(arm, part) for part in squares_of(strips(word, best[0]))])


def squares_of(some):
    """Rows whose squares, one behind another, are alike to the row of strips."""
    left, found = some, []
    places = same_ends(left)
    while places is not None:
        first, last = places
        a, b, c = left[:first], left[first + 1:last], left[last + 1:]
        found.append(led(row_of(a), left[first][0] + row_of(b)))
        left = a + [(sign.swapcase(), number) for sign, number in b[::-1]] + c
        places = same_ends(left)
    for v, w in turn_pairs(left):
        u = found.pop() if found else ""
        found += [u + u + v + turned(u), u + turned(v) + turned(u) + w + turned(u), u + turned(w)]
    return found


def same_ends(some):
    """The two places of a strip between a sign and the same sign, or None."""
    for first, last in ends_of(some):
        if some[first][0] == some[last][0]:
            return first, last
    return None


def square_rows_hold(row, value):
    """Whether any value is a tuple of rows whose squares, one behind another, are alike to a row."""
    check_row(row)
    if not isinstance(value, tuple) or not all([is_row(part) for part in value]):
        return False
    return alike(row, "".join([part + part for part in value]))
