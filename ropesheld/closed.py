"""Closed ropes: their ends are let go, and what stood first may come last."""

from math import gcd

from ropesheld.rows import alike, core, joined, reduced, times, turned
from ropesheld.signs import agreeing, check_row, is_row, row_order


def root_of(word):
    """The shortest word, and the number, such that a word is the one so many times; ("", 0) for the empty word."""
    if word == "":
        return "", 0
    length = (word + word).find(word, 1)
    return word[:length], len(word) // length


def parts(row):
    """The triple (arm, word, number) of a row: its core is the word so many times, and no word more often."""
    arm, middle = core(row)
    word, many = root_of(middle)
    return arm, word, many


def turns_of(word):
    """The word and all others that come of it if a beginning is put behind the rest."""
    return [word] + [word[at:] + word[:at] for at in range(1, len(word))]


def turns(row):
    """All different turns of the core of a row, in order of rows."""
    _, word, many = parts(row)
    return tuple([turn * many for turn in sorted(turns_of(word), key=row_order)])


def least_turn(row):
    """The first turn of the core of a row in order of rows."""
    _, word, many = parts(row)
    return min(turns_of(word), key=row_order) * many


def same_closed(one, other):
    """Whether two rows are closed alike."""
    return least_turn(one) == least_turn(other)


def some_arm(one, other):
    """Some arm that leads the other row to the one, or None."""
    (arm, middle), (other_arm, other_middle) = core(one), core(other)
    at = (other_middle + other_middle).find(middle)
    if len(middle) != len(other_middle) or at < 0:
        return None
    return joined([arm, turned(other_middle[:at]), turned(other_arm)])


def arm_holds(one, other, value):
    """Whether any value is an arm that leads the other row to the one."""
    return all_hold([one], [other], value)


def least_arm(one, other):
    """The first arm in order of rows that leads the other row to the one, or None."""
    some = some_arm(one, other)
    arm, word, many = parts(one)
    if some is None or many == 0:
        return some
    # All arms are the arm of the one, some power of the word, and this rest. How long they are hangs on how far
    # the power and what of the rest goes along it are apart: so it is one of the two powers next to that.
    rest = joined([turned(arm), some])
    power = -way_along(rest, word) // len(word)
    return min([led_by_power(arm, word, power, rest), led_by_power(arm, word, power + 1, rest)], key=row_order)


def led_by_power(arm, word, power, rest):
    """The reduced row of an arm, a power of a word, and a rest."""
    return joined([arm, times(word, power), rest])


def way_along(row, word):
    """How far a row goes along a word again and again, below 0 if it goes along the turned word."""
    many = len(row) // len(word) + 1
    ahead = agreeing(row, word * many)
    return ahead if ahead else -agreeing(row, turned(word) * many)


def root(row):
    """The pair (row, number) of the row that is no power of another one, and the number by which a row is its power."""
    arm, word, many = parts(row)
    return joined([arm, word, turned(arm)]), many


def nth_part(row, many):
    """The row whose power by a number from 1 on a row is, or None."""
    whole, power = root(row)
    return None if power % many else times(whole, power // many)


def commute(one, other):
    """Whether it is the same which of two rows comes first."""
    return joined([one, other]) == joined([other, one])


def shared_root(one, other):
    """The triple of a row that is its own root and the integers by which both rows are its powers, or None."""
    if not commute(one, other):
        return None
    whole, power = root(one)
    further, other_power = root(other)
    if power == 0:
        return further, 0, other_power
    return whole, power, other_power if further == whole else -other_power


def shared_power(one, other):
    """The least powers, of which only the second one may be below 0, that are closed alike, or None."""
    (_, word, many), (_, further, other_many) = parts(one), parts(other)
    if many == 0 and other_many == 0:
        return 1, 1
    if same_closed(word, further):
        return other_many // gcd(many, other_many), many // gcd(many, other_many)
    if same_closed(word, turned(further)):
        return other_many // gcd(many, other_many), -many // gcd(many, other_many)
    return None


def arm_for_all(ones, others):
    """Some arm that leads each of the other rows to the one at its place, or None."""
    check_rows(ones, others)
    pairs = [(one, other) for one, other in zip(ones, others) if reduced(one)]
    if not all([same_closed(one, other) for one, other in zip(ones, others)]):
        return None
    if not pairs:
        return ""
    arm = some_arm(pairs[0][0], pairs[0][1])
    whole, _ = root(pairs[0][0])
    for one, other in pairs:
        led = joined([arm, other, turned(arm)])
        if not commute(whole, led):
            # Only one power of the root can lead this one: so what it does not lead is led by none.
            arm = joined([times(whole, power_between(whole, led, one)), arm])
            break
    return arm if all_hold(ones, others, arm) else None


def check_rows(ones, others):
    """Raise InvalidRow for the first thing in two sequences that is no row."""
    for row in [*ones, *others]:
        check_row(row)


def power_between(whole, start, goal):
    """The power of a root that leads a row, with which it does not commute, to a goal, if any one does."""
    arm, word, _ = parts(whole)
    places = [axis_place(word, joined([turned(arm), row, arm])) for row in (start, goal)]
    return (places[1] - places[0]) // len(word)


def axis_place(word, row):
    """Where the endless ways of a row, both ways about, are first along the endless way of a word.

    Powers of the word move this place by as many words, if the row does not commute with it.
    """
    arm, middle = core(row)
    # Who goes on along the word for longer than both are does so for ever, and commutes with it.
    many = len(word) // len(middle) + 2
    return min(way_along(arm + middle * many, word), way_along(arm + turned(middle) * many, word))


def all_hold(ones, others, value):
    """Whether any value is an arm that leads each of the other rows to the one at its place."""
    check_rows(ones, others)
    if not is_row(value):
        return False
    return all([alike(one, joined([value, other, turned(value)])) for one, other in zip(ones, others)])


def agree(one, other):
    """How many signs agree of the endless rows of two cores, None if all do or a core is empty."""
    (_, word, many), (_, further, other_many) = parts(one), parts(other)
    if many == 0 or other_many == 0 or word == further:
        return None
    # Unlike words that are no powers part before both of them have gone by once.
    reach = len(word) + len(further)
    return agreeing(word * (reach // len(word) + 1), further * (reach // len(further) + 1))
