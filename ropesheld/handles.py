"""Handles that hold a rope: turns of two rows, one behind another."""

from ropesheld.pairings import handles_of, pairing
from ropesheld.rows import alike, core, joined, turned
from ropesheld.signs import check_row, is_row


def handles(row):
    """The least number of handles by which a row is held, or None."""
    pairs = pairing(row)
    return None if pairs is None else handles_of(row, pairs)


def handle_pairs(row):
    """Some tuple of as few pairs of rows as can be, whose turns, one behind another, are alike to a row, or None."""
    pairs = pairing(row)
    if pairs is None:
        return None
    arm, word = core(row)
    return tuple([(led(arm, one), led(arm, other)) for one, other in turn_pairs(strips(word, pairs))])


def led(arm, row):
    """The reduced row of an arm, a row, and the arm turned."""
    return joined([arm, row, turned(arm)])


def strips(word, pairs):
    """For each place of a word its sign and the number of its pair."""
    numbers = {place: number for number, pair in enumerate(pairs) for place in pair}
    return [(sign, numbers[place]) for place, sign in enumerate(word)]


def row_of(some):
    """The row of the signs of strips."""
    return "".join([sign for sign, _ in some])


def ends_of(some):
    """The pairs of the places at which each strip begins and ends."""
    starts, ends = {}, []
    for place, (_, number) in enumerate(some):
        if number in starts:
            ends.append((starts[number], place))
        else:
            starts[number] = place
    return ends


def crossing(some):
    """The four places of two strips that cross, or None."""
    ends = ends_of(some)
    for first, third in ends:
        for second, fourth in ends:
            if first < second < third < fourth:
                return first, second, third, fourth
    return None


def turn_pairs(some):
    """Pairs of rows whose turns, one behind another, are alike to the row of strips between signs and other ones."""
    left, found = some, []
    places = crossing(left)
    while places is not None:
        first, second, third, fourth = places
        a, b, c = left[:first], left[first + 1:second], left[second + 1:third]
        d, e = left[third + 1:fourth], left[fourth + 1:]
        one = turned(row_of(d)) + left[first][0] + turned(row_of(c))
        other = row_of(c + b) + left[second][0]
        found.append((led(row_of(a + d), one), led(row_of(a + d), other)))
        left = a + d + c + b + e
        places = crossing(left)
    return found


def handle_pairs_hold(row, value):
    """Whether any value is a tuple of pairs of rows whose turns, one behind another, are alike to a row."""
    check_row(row)
    if not isinstance(value, tuple) or not all([is_row_pair(pair) for pair in value]):
        return False
    return alike(row, "".join([u + v + turned(u) + turned(v) for u, v in value]))


def is_row_pair(value):
    """Whether any value is a pair of rows."""
    return isinstance(value, tuple) and len(value) == 2 and is_row(value[0]) and is_row(value[1])


def handle_cut(row):
    """Some cut of a row, or None."""
    arm, word = core(row)
    for at in range(max(len(word), 1)):
        parts = three_parts(word[at:] + word[:at])
        if parts is not None:
            x, y, z = parts
            return joined([arm, word[:at]]), x, y, z
    return None


def three_parts(word):
    """Three rows so that a word is these and the same three turned, or None."""
    half = len(word) // 2
    ahead, behind = word[:half], turned(word[half:])
    # The word behind turned about is the third one, the second one and the first one, as they stand ahead.
    for first in range(half + 1):
        if behind.endswith(ahead[:first]):
            for second in range(first, half + 1):
                if ahead[second:] + ahead[first:second] + ahead[:first] == behind:
                    return ahead[:first], ahead[first:second], ahead[second:]
    return None


def handle_cut_holds(row, value):
    """Whether any value is a cut of a row."""
    check_row(row)
    if not isinstance(value, tuple) or len(value) != 4 or not all([is_row(part) for part in value]):
        return False
    arm, x, y, z = value
    return alike(row, arm + x + y + z + turned(x) + turned(y) + turned(z) + turned(arm))
