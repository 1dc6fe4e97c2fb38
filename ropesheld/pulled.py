"""Pulled posts: by which lots of them a rope falls."""

from ropesheld.rows import reduced, without
from ropesheld.signs import POSTS, check_row


def lot_order(lot):
    """The key by which lots are ordered: shorter ones first, of one length ascending."""
    return len(lot), lot


def all_lots(posts):
    """All lots of a board, in order."""
    lots = [""]
    for post in POSTS[:posts]:
        lots = lots + [lot + post for lot in lots]
    return sorted(lots, key=lot_order)


def is_in_lot(less, lot):
    """Whether all posts of the one lot are in the other one."""
    return all([post in lot for post in less])


def least_lots(posts, is_asked):
    """The least lots of a board of which something is so that is so of each greater lot, too."""
    found = []
    for lot in all_lots(posts):
        if not any([is_in_lot(less, lot) for less in found]) and is_asked(lot):
            found.append(lot)
    return tuple(found)


def rest_of(lot, posts):
    """The lot of all other posts of a board."""
    return without(POSTS[:posts], lot)


def falls(row, lot):
    """Whether a rope falls by a lot."""
    return reduced(without(row, lot)) == ""


def falling(row, posts):
    """The least lots by which a rope falls."""
    check_row(row, posts)
    left = reduced(row)
    return least_lots(posts, lambda lot: falls(left, lot))


def holding(row, posts):
    """The greatest lots by which a rope holds, longer ones first."""
    check_row(row, posts)
    left = reduced(row)
    # Whose rest is least is greatest itself; only of one length the order is another one.
    rests = least_lots(posts, lambda lot: not falls(left, rest_of(lot, posts)))
    return tuple(sorted([rest_of(lot, posts) for lot in rests], key=lambda lot: (-len(lot), lot)))


def needed(row, posts):
    """The lot of the posts that stand in all least lots by which a rope falls."""
    lots = falling(row, posts)
    return "".join([post for post in POSTS[:posts] if all([post in lot for lot in lots])])


def spared(row, posts):
    """The lot of the posts that stand in no least lot by which a rope falls."""
    lots = falling(row, posts)
    return "".join([post for post in POSTS[:posts] if not any([post in lot for lot in lots])])


def falls_at(row, order, posts):
    """How many posts are pulled, in an order, when a rope falls first."""
    check_row(row, posts)
    many = 0
    while not falls(row, order[:many]):
        many += 1
    return many


def sure_for(row, posts):
    """The greatest number of posts, whichever of them are pulled, with which a rope holds, or -1."""
    return len(falling(row, posts)[0]) - 1
