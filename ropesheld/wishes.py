"""Wishes: by which lots a rope shall fall, and ropes that do so."""

from ropesheld.errors import InvalidWish
from ropesheld.pulled import falling, falls, is_in_lot, least_lots, lot_order, rest_of
from ropesheld.rows import joined, times, turned, without
from ropesheld.signs import MOST_POSTS, POSTS, check_row, is_sequence


def is_lot(value, posts):
    """Whether any value is a lot of a board."""
    return isinstance(value, str) and value == "".join([post for post in POSTS[:posts] if post in value])


def is_wish(value, posts):
    """Whether any value is a wish of a board."""
    if not isinstance(value, tuple) or len(value) == 0 or not all([is_lot(lot, posts) for lot in value]):
        return False
    return value == least_of(value)


def check_wish(wish, posts):
    """Raise InvalidWish for any value that is no wish of a board."""
    if not is_wish(wish, posts):
        raise InvalidWish(0)


def is_asked(lots, lot):
    """Whether a lot is one of some lots, or a greater one."""
    return any([is_in_lot(less, lot) for less in lots])


def least_of(lots):
    """The least ones of some lots, in order."""
    found = []
    for lot in sorted(lots, key=lot_order):
        if not is_asked(found, lot):
            found.append(lot)
    return tuple(found)


def wish_of(lots, posts):
    """The wish that asks for told lots and all greater ones."""
    if not is_sequence(lots) or len(lots) == 0:
        raise InvalidWish(0)
    for at, lot in enumerate(lots):
        if not is_lot(lot, posts):
            raise InvalidWish(at)
    return least_of(lots)


def asks(wish, lot):
    """Whether a wish asks for a lot."""
    check_wish(wish, MOST_POSTS)
    return is_asked(wish, lot)


def either(one, other, posts):
    """The wish that asks for the lots for which one of two wishes asks."""
    check_wish(one, posts)
    check_wish(other, posts)
    return least_of(one + other)


def both(one, other, posts):
    """The wish that asks for the lots for which both wishes ask."""
    check_wish(one, posts)
    check_wish(other, posts)
    return asked_twice(one, other, posts)


def asked_twice(lots, others, posts):
    """The least lots that are asked for by some lots and by other ones."""
    return least_lots(posts, lambda lot: is_asked(lots, lot) and is_asked(others, lot))


def any_of(posts, many):
    """The wish that asks for all lots of so many posts."""
    return least_lots(posts, lambda lot: len(lot) >= many)


def bars(wish, posts):
    """The wish that asks for a lot exactly if a wish does not ask for the rest of the posts."""
    check_wish(wish, posts)
    if wish == ("",):
        raise InvalidWish(0)
    return barring(wish, posts)


def barring(lots, posts):
    """The least lots whose rest is not asked for by some lots."""
    return least_lots(posts, lambda lot: not is_asked(lots, rest_of(lot, posts)))


def keeps_wish(row, wish, posts):
    """Whether a row falls by just the lots for which a wish asks."""
    check_row(row, posts)
    check_wish(wish, posts)
    return falling(row, posts) == wish


def rope_for(wish, posts):
    """Some row that falls by just the lots for which a wish asks."""
    check_wish(wish, posts)
    shared = "".join([post for post in POSTS[:posts] if all([post in lot for lot in wish])])
    # With these posts apart, each lot that is not asked for leaves two posts at least: crossed needs this.
    rows = [without(lot, shared) for lot in wish]
    held = [rest_of(lot, posts) for lot in barring(rows, posts)]
    while len(rows) > 1:
        last = rows[-1:] if len(rows) % 2 else []
        rows = [crossed(one, other, held, posts) for one, other in zip(rows[::2], rows[1::2])] + last
    return shared + rows[0]


def crossed(one, other, held, posts):
    """Some row that falls where one of two rows does, and holds by all told lots, by which both of them hold."""
    arms = [""] + list(POSTS[:posts])
    many = 0
    while True:
        for arm in arms:
            led = joined([arm, other, turned(arm)])
            row = joined([one, led, turned(one), turned(led)])
            if not any([falls(row, lot) for lot in held]):
                return row
        # Single posts are tried for short rows alone; of the arms with each post many times some one is right.
        many += 1
        arms = ["".join([post * many for post in POSTS[:posts]])]


def together(one, other, posts):
    """Some row that falls by just the lots by which two rows both fall."""
    wish = asked_twice(falling(one, posts), falling(other, posts), posts)
    many = 1
    # By each lot at most one power is wrong.
    while falling(joined([one, times(other, many)]), posts) != wish:
        many += 1
    return joined([one, times(other, many)])
