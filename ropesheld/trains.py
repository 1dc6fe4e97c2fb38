"""Trains: maps that can be done again and again without any sign going."""

from ropesheld.errors import NoTrain
from ropesheld.rows import reduced
from ropesheld.signs import POSTS, check_row, signs_of


def turns_in(row):
    """The lot of the turns of the reduced row."""
    left = reduced(row)
    return tuple(sorted({turn_of(one.swapcase(), other) for one, other in zip(left, left[1:])}))


def turn_of(one, other):
    """The turn of two signs."""
    return tuple(sorted([one, other]))


def has_empty_row(one):
    """Whether a map leads some post to nothing."""
    return "" in one.rows


def check_full(one):
    """Raise NoTrain for a map with an empty row."""
    if has_empty_row(one):
        raise NoTrain("map")


def turn_led(one, turn):
    """The turn of the first signs of what the two signs of a turn are led to."""
    check_full(one)
    return turn_of(first_sign(one, turn[0]), first_sign(one, turn[1]))


def first_sign(one, sign):
    """The first sign of what a sign is led to."""
    row = one.rows[POSTS.index(sign.lower())]
    return row[0] if sign.islower() else row[-1].swapcase()


def is_dead(turn):
    """Whether a turn is one sign twice."""
    return turn[0] == turn[1]


def led_on(one, turns):
    """All turns that come of some turns, these themselves, too, led any number of times, ascending."""
    found = list(turns)
    seen = set(found)
    at = 0
    while at < len(found):
        turn = turn_led(one, found[at])
        if turn not in seen:
            seen.add(turn)
            found.append(turn)
        at += 1
    return tuple(sorted(found))


def are_smooth(one, turns):
    """Whether all of some turns are smooth."""
    return not any([is_dead(turn) for turn in led_on(one, turns)])


def is_smooth(one, row):
    """Whether all turns of the reduced row are smooth."""
    check_row(row, one.posts)
    check_full(one)
    return are_smooth(one, turns_in(row))


def taken_turns(one):
    """The lot of all turns that are taken by the rows of a map."""
    return tuple(sorted({turn for row in one.rows for turn in turns_in(row)}))


def train_lot(one):
    """The lot of all turns that come of those taken by the rows of a map, or None for no train."""
    check_full(one)
    turns = taken_turns(one)
    return led_on(one, turns) if are_smooth(one, turns) else None


def is_train(one):
    """Whether a map is a train."""
    return not has_empty_row(one) and train_lot(one) is not None


def train_holds(one, value):
    """Whether any value is a tuple of turns, none of them dead, with all taken ones and those to which they are led."""
    check_full(one)
    if not isinstance(value, tuple) or not all([is_turn(turn, one.posts) for turn in value]):
        return False
    if any([is_dead(turn) for turn in value]):
        return False
    needed = list(taken_turns(one)) + [turn_led(one, turn) for turn in value]
    return all([turn in value for turn in needed])


def is_turn(value, posts):
    """Whether any value is a turn of signs of so many posts."""
    if not isinstance(value, tuple) or len(value) != 2:
        return False
    return all([sign in list(signs_of(posts)) for sign in value]) and value[0] <= value[1]


def trouble(one):
    """The least pair (many, post) so that the written growth of the post is not reduced, or None for a train."""
    if train_lot(one) is not None:
        return None
    grown = {post: (post, ()) for post in POSTS[:one.posts]}
    many = 0
    while True:
        for post, (_, turns) in grown.items():
            if any([is_dead(turn) for turn in turns]):
                return many, post
        many += 1
        grown = {post: written_on(one, letters, turns) for post, (letters, turns) in grown.items()}


def written_on(one, letters, turns):
    """The posts that stand in a written row that is led once more, and its turns, as they are told of the row ahead."""
    rows = [one.rows[POSTS.index(post)] for post in letters]
    standing = "".join(rows).lower()
    within = [turn for row in rows for turn in turns_in(row)]
    further = sorted(set(within + [turn_led(one, turn) for turn in turns]))
    return "".join([post for post in POSTS if post in standing]), further
