"""Walks on the floor, and the rows of signs that they write."""

from ropesheld.errors import InvalidWalk
from ropesheld.rows import reduced
from ropesheld.signs import POSTS, check_row, first_wrong

STEPS = {"n": (0, 1), "e": (1, 0), "s": (0, -1), "w": (-1, 0)}
HOME = (0, 1)


def is_walk(value):
    """Whether any value is a walk."""
    return first_wrong(value, "nesw") is None


def check_walk(walk):
    """Raise InvalidWalk for any value that is no walk."""
    at = first_wrong(walk, "nesw")
    if at is not None:
        raise InvalidWalk(at)


def points(walk):
    """All points of a walk, from home on."""
    check_walk(walk)
    x, y = HOME
    found = [HOME]
    for step in walk:
        right, up = STEPS[step]
        x, y = x + right, y + up
        found.append((x, y))
    return tuple(found)


def end(walk):
    """The last point of a walk."""
    check_walk(walk)
    x, y = HOME
    return x + walk.count("e") - walk.count("w"), y + walk.count("n") - walk.count("s")


def back(walk):
    """The steps that lead all the way back."""
    check_walk(walk)
    return walk[::-1].translate(str.maketrans("nesw", "swne"))


def crossing_row(walk, posts):
    """The row of all signs that a walk writes on a board of so many posts."""
    row = []
    for (x, y), step in zip(points(walk), walk):
        post = passed_post(x, step)
        if step in "ew" and y <= 0 and 0 <= post < posts:
            row.append(step_sign(post, step))
    return "".join(row)


def passed_post(x, step):
    """The number of the post above or below which a step e or w goes from a point."""
    return x if step == "e" else x - 1


def step_sign(post, step):
    """The sign that a step e or w writes when it crosses the line of a post."""
    return POSTS[post] if step == "e" else POSTS[post].upper()


def round_of(sign):
    """The walk from home once around a sign's post."""
    post = POSTS.index(sign.lower())
    return "e" * post + ("senw" if sign.islower() else "eswn") + "w" * post


def walk_of(row):
    """The walk that goes, for each sign in order, once around its post."""
    check_row(row)
    return "".join([round_of(sign) for sign in row])


def plain_walk(walk, posts):
    """The walk of the reduced crossing row, then straight to the end."""
    row = reduced(crossing_row(walk, posts))
    x, y = end(walk)
    across, up = x - HOME[0], y - HOME[1]
    return walk_of(row) + "e" * across + "w" * -across + "n" * up + "s" * -up


def land(walk):
    """Twice the land that the closed walk goes around, below 0 the other way round."""
    places = points(walk)
    total = 0
    for (x, y), (u, v) in zip(places, places[1:] + (HOME,)):
        total += x * v - u * y
    return total


def meetings(walk):
    """The pairs of numbers of points that are one point."""
    found, visits = [], {}
    for at, place in enumerate(points(walk)):
        earlier = visits.setdefault(place, [])
        found += [(first, at) for first in earlier]
        earlier.append(at)
    return tuple(sorted(found))
