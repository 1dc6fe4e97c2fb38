"""Tying: by which knots ropes are tied of told ropes."""

from ropesheld.knots import idle_knot, knots_for
from ropesheld.rows import joined, reduced, turned
from ropesheld.signs import MOST_POSTS, check_row, is_number, is_posts
from ropesheld.webs import Web, check_web, way_to


def check_told(posts, ropes, row):
    """Raise InvalidRow for what is no row of so many posts, then InvalidWeb for what are no told ropes."""
    check_row(row, posts if is_posts(posts) else MOST_POSTS)
    check_web(posts, ropes)


def tied(posts, ropes, row):
    """Some knot of a row: pairs (number of a told rope, whether it is turned), or None if it is not tied."""
    check_told(posts, ropes, row)
    if not Web(posts, ropes).has(row):
        return None
    return knot_pairs(knots_for(ropes, [row])[0])


def knot_pairs(numbers):
    """The knot of which the numbers tell."""
    return tuple([(abs(number) - 1, number < 0) for number in numbers])


def tied_holds(posts, ropes, row, value):
    """Whether any value is a knot of a row."""
    check_told(posts, ropes, row)
    if not is_knot(value, len(ropes)):
        return False
    return joined([turned(ropes[number]) if back else ropes[number] for number, back in value]) == reduced(row)


def is_knot(value, many):
    """Whether any value is a tuple of pairs of a number below so many and a bool."""
    return isinstance(value, tuple) and all([is_knot_pair(pair, many) for pair in value])


def is_knot_pair(value, many):
    """Whether any value is a pair of a number below so many and a bool."""
    if not isinstance(value, tuple) or len(value) != 2:
        return False
    return is_number(value[0]) and value[0] < many and isinstance(value[1], bool)


def idle(posts, ropes):
    """Some idle knot of told ropes, or None."""
    return None if is_free(posts, ropes) else knot_pairs(idle_knot(ropes))


def is_free(posts, ropes):
    """Whether there is no idle knot."""
    return rank(Web(posts, ropes)) == len(ropes)


def rank(web):
    """How many ropes are needed that just the same ropes are tied."""
    return len(web.ties) - web.size + 1


def base(web):
    """The reduced rows by the least way to a tie, along it and back, where something is left."""
    rows = []
    for start, post, goal in web.ties:
        # Only ties by which one of both least rows ends leave nothing.
        if web.ends[goal] != (start, post) and web.ends[start] != (goal, post.upper()):
            rows.append(joined([way_to(web, start), post, turned(way_to(web, goal))]))
    return tuple(rows)
