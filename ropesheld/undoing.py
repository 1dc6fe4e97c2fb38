"""Maps that can be undone, and what the others miss."""

from ropesheld.closed import arm_for_all
from ropesheld.houses import House, led_to
from ropesheld.knots import knots_for
from ropesheld.maps import Map, led_after, plain_map
from ropesheld.outside import side_house
from ropesheld.signs import POSTS, is_row
from ropesheld.webs import Web


def first_missed(one):
    """The first post that is not tied of the rows of a map, or None."""
    web = Web(one.posts, one.rows)
    for post in POSTS[:one.posts]:
        if not web.has(post):
            return post
    return None


def undone(one):
    """The map that leads all rows back, or None."""
    if first_missed(one) is not None:
        return None
    posts = POSTS[:one.posts]
    # What leads back makes of each post what the map's rows of it are put together to.
    return Map(one.posts, [post_row(knot) for knot in knots_for(one.rows, list(posts))])


def post_row(knot):
    """The row that has a post's sign for each rope of a knot."""
    return "".join([POSTS[number - 1] if number > 0 else POSTS[-number - 1].upper() for number in knot])


def is_undone(one, other):
    """Whether two maps undo one another."""
    plain = plain_map(one.posts)
    return led_after(one, other) == plain and led_after(other, one) == plain


def missed(one):
    """Some pair of a post that a map misses and a house that shows it, or None if the map can be undone."""
    post = first_missed(one)
    return None if post is None else (post, side_house(one.posts, one.rows, post))


def missed_holds(one, value):
    """Whether any value is a pair of a post that a map misses and a house that shows it."""
    if not isinstance(value, tuple) or len(value) != 2:
        return False
    post, house = value
    if post not in list(POSTS[:one.posts]) or not isinstance(house, House):
        return False
    if not all([is_row(row, house.posts) for row in [post, *one.rows]]):
        return False
    return led_to(house, 0, post) != 0 and all([led_to(house, 0, row) == 0 for row in one.rows])


def turned_into(one, other):
    """Some reduced row between which and this turned the other map leads as the one does, or None."""
    return arm_for_all(other.rows, one.rows)


def turning_row(one):
    """The reduced row by which a map turns all posts, or None."""
    plain = plain_map(one.posts)
    # On one post each row does what the empty one does.
    return "" if one == plain else turned_into(plain, one)
