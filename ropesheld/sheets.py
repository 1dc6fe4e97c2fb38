"""Sheets without handles: ropes that fall together, each between some row and this row turned."""

from ropesheld.closed import least_turn
from ropesheld.rows import alike, core, joined, turned, windings
from ropesheld.signs import MOST_POSTS, check_row, is_row


def check_rows(rows):
    """Raise InvalidRow for the first thing in a sequence that is no row."""
    for row in rows:
        check_row(row)


def fall_together(rows):
    """Some tuple of rows, one for each rope, between which and these turned the ropes fall together, or None."""
    check_rows(rows)
    # This is told at once, where trying all might take long.
    if any(windings("".join(rows), MOST_POSTS)):
        return None
    rings = [cored(row, [(at, "")]) for at, row in enumerate(rows)]
    found = fitted(rings, {})
    return None if found is None else in_order(rows, found)


def cored(row, told):
    """A ring: the core of a row, and pairs (number of a rope, arm) so that these ropes, led so, make the core.

    The pairs are told for the row itself.
    """
    arm, word = core(row)
    return word, led_further(turned(arm), told)


def led_further(arm, told):
    """The pairs of ropes that are led by an arm more."""
    return [(at, joined([arm, led])) for at, led in told]


def fitted(rings, failed):
    """Pairs (number of a rope, arm), in some order, by which the ropes of rings fall together, or None."""
    done = [pair for word, told in rings if word == "" for pair in told]
    left = [ring for ring in rings if ring[0] != ""]
    if not left:
        return done
    key = tuple(sorted([least_turn(word) for word, _ in left]))
    if key not in failed:
        # A core alone does not fall: so a strip leads from the first ring to another one, and makes both one ring.
        for at in range(1, len(left)):
            for ring in rings_of_two(left[0], left[at]):
                found = fitted([ring] + left[1:at] + left[at + 1:], failed)
                if found is not None:
                    return done + found
        failed[key] = True
    return None


def rings_of_two(one, other):
    """The rings that two rings make if a strip joins a sign of the one to its other one."""
    (word, told), (further, more) = one, other
    found = []
    for first, sign in enumerate(word):
        for second, contrary in enumerate(further):
            if contrary == sign.swapcase():
                ahead, behind = word[:first + 1], further[:second]
                row = word[first + 1:] + word[:first] + further[second + 1:] + behind
                found.append(cored(row, led_further(turned(ahead), told) + led_further(turned(behind), more)))
    return found


def in_order(rows, told):
    """The arms of the ropes in their order, if they fall together as pairs tell in another one."""
    placed = []
    for at, arm in told:
        spot, led = len(placed), arm
        # Who goes ahead of another rope is led round it.
        while spot > 0 and placed[spot - 1][0] > at:
            other, further = placed[spot - 1]
            led = joined([further, rows[other], turned(further), led])
            spot -= 1
        placed.insert(spot, (at, led))
    return tuple([arm for _, arm in placed])


def fall_together_holds(rows, value):
    """Whether any value is a tuple of rows, one for each rope, between which and these turned they fall together."""
    check_rows(rows)
    if not isinstance(value, tuple) or len(value) != len(rows) or not all([is_row(arm) for arm in value]):
        return False
    return alike("", "".join([arm + row + turned(arm) for row, arm in zip(rows, value)]))
