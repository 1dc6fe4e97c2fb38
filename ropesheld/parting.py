"""Houses that part rows: they lead one thing to unlike ends."""

from ropesheld.houses import House, led_to
from ropesheld.rows import joined, turned
from ropesheld.signs import POSTS, check_row, is_number, is_row


def parting(posts, one, other):
    """Some pair (house, thing) so that both rows lead the thing to unlike things, or None for alike rows."""
    check_row(one, posts)
    check_row(other, posts)
    row = joined([one, turned(other)])
    if row == "":
        return None
    return House([swap_along(row, post) for post in POSTS[:posts]]), 0


def swap_along(row, post):
    """A swap by which a post leads on from each place between signs of a reduced row to the next one."""
    goals = {}
    for at, sign in enumerate(row):
        if sign == post:
            goals[at] = at + 1
        elif sign == post.upper():
            goals[at + 1] = at
    return filled_swap(goals, len(row) + 1)


def filled_swap(goals, things):
    """A swap of so many things that leads as told goals do, no two of which are one thing."""
    taken = set(list(goals.values()))
    starts = [thing for thing in range(things) if thing not in goals]
    ends = [thing for thing in range(things) if thing not in taken]
    swap = dict(goals)
    for start, goal in zip(starts, ends):
        swap[start] = goal
    return [swap[thing] for thing in range(things)]


def parting_holds(one, other, value):
    """Whether any value is a pair of a house and a thing that both rows lead to unlike things."""
    check_row(one)
    check_row(other)
    if not isinstance(value, tuple) or len(value) != 2:
        return False
    house, thing = value
    if not isinstance(house, House) or not is_number(thing) or thing >= house.things:
        return False
    if not is_row(one, house.posts) or not is_row(other, house.posts):
        return False
    return led_to(house, thing, one) != led_to(house, thing, other)
