"""Sides of webs: lots of ropes that are tied but for how they begin."""

from ropesheld.rows import joined, turned
from ropesheld.signs import check_row
from ropesheld.webs import walked, way_to


def side_of(web, row):
    """The least row on the side of a row."""
    place, rest = walked(web, row)
    return way_to(web, place) + rest


def same_side(web, one, other):
    """Whether two ropes are on one side of a web."""
    check_row(one, web.posts)
    check_row(other, web.posts)
    return web.has(joined([one, turned(other)]))


def sides(web):
    """The number of sides, or None if there are endlessly many."""
    # So there is a tie of each post that begins, and one that ends, at each place.
    return web.size if len(web.ties) == web.size * web.posts else None


def all_sides(web):
    """The least rows of all sides, in order, or None if there are endlessly many."""
    return None if sides(web) is None else tuple([way_to(web, place) for place in range(web.size)])
