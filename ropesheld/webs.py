"""Webs: places and ties that tell what is tied of told ropes."""

from ropesheld.errors import InvalidWeb
from ropesheld.nets import net_of, numbered, pruned, ring_ties
from ropesheld.rows import reduced
from ropesheld.signs import check_row, is_posts, is_row, is_sequence


class Web:
    """The places and ties of told ropes: exactly what is tied of them leads from the place 0 to itself."""

    def __init__(self, posts, ropes):
        check_web(posts, ropes)
        many, ties = ring_ties([reduced(rope) for rope in ropes])
        self.posts = posts
        self.goals, self.ends = numbered(net_of(many, ties), posts, 0)
        self.ties = ties_of(self.goals)
        self.size = len(self.goals)

    def __eq__(self, other):
        return isinstance(other, Web) and self.posts == other.posts and self.ties == other.ties

    def place_of(self, row):
        """The place to which the reduced row leads from 0, or None if a tie is lacking."""
        place, rest = walked(self, row)
        return None if rest else place

    def has(self, row):
        """Whether a rope is tied."""
        return self.place_of(row) == 0


def check_web(posts, ropes):
    """Raise InvalidWeb for any values that are not a number of posts and a sequence of rows of them."""
    if not is_posts(posts):
        raise InvalidWeb("posts")
    if not is_sequence(ropes) or not all([is_row(rope, posts) for rope in ropes]):
        raise InvalidWeb("ropes")


def ties_of(goals):
    """The triples (place, post, place) of a net, ascending."""
    return tuple(sorted([(place, sign, steps[sign])
                         for place, steps in enumerate(goals) for sign in steps if sign.islower()]))


def web_of(posts, net, home):
    """The web of all ropes whose reduced rows lead from home to home in a net."""
    web = Web(posts, [])
    web.goals, web.ends = numbered(pruned(net, home), posts, home)
    web.ties = ties_of(web.goals)
    web.size = len(web.goals)
    return web


def walked(web, row):
    """The place to which the reduced row leads as far as ties go, and the rest of the row."""
    check_row(row, web.posts)
    left, place = reduced(row), 0
    for at, sign in enumerate(left):
        if sign not in web.goals[place]:
            return place, left[at:]
        place = web.goals[place][sign]
    return place, ""


def way_to(web, place):
    """The least row that leads from 0 to a place."""
    signs, at = [], place
    while at != 0:
        at, sign = web.ends[at]
        signs.append(sign)
    return "".join(signs[::-1])


def with_line(web, row):
    """The net of a web with new places for a row where ties are lacking, and the place to which the row leads."""
    place, rest = walked(web, row)
    net = [dict(steps) for steps in web.goals]
    for sign in rest:
        net[place][sign] = len(net)
        net.append({sign.swapcase(): place})
        place = len(net) - 1
    return net, place
