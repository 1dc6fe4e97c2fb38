"""Rows that lead a thing of a house home, told by the least rows to all things."""

from ropesheld.houses import led_to
from ropesheld.rows import joined, turned
from ropesheld.signs import POSTS, signs_of


def house_ways(house, thing):
    """All things to which rows lead a thing, with the least row that does, ordered by these rows."""
    ways, level = {thing: ""}, [thing]
    # Each least row is a least row and one sign more, so level by level and sign by sign they come in order.
    while level:
        further = []
        for place in level:
            for sign in signs_of(house.posts):
                goal = house.by_sign[sign][place]
                if goal not in ways:
                    ways[goal] = ways[place] + sign
                    further.append(goal)
        level = further
    return tuple(ways.items())


def way(house, thing, goal):
    """The least row that leads a thing to a goal, or None."""
    return dict(house_ways(house, thing)).get(goal)


def home_rows(house, thing):
    """The reduced rows by the way to a thing, a post and the way back, where something is left."""
    return tuple([row for _, row in home_steps(house, thing)])


def home_steps(house, thing):
    """The pairs of a step (place, post) outside of the ways and the home row that goes by it, in order."""
    ways = dict(house_ways(house, thing))
    found = []
    for place in ways:
        for post in POSTS[:house.posts]:
            row = joined([ways[place], post, turned(ways[house.by_sign[post][place]])])
            if row:
                found.append(((place, post), row))
    return found


def home_told(house, thing, row):
    """The pairs (index of a home row, 1 or -1) that make a row that leads a thing home, None for another row."""
    if led_to(house, thing, row) != thing:
        return None
    numbers = {step: index for index, (step, _) in enumerate(home_steps(house, thing))}
    told, place = [], thing
    for sign in row:
        goal = house.by_sign[sign][place]
        step, power = ((place, sign), 1) if sign.islower() else ((goal, sign.lower()), -1)
        if step in numbers:
            add_told(told, numbers[step], power)
        place = goal
    return tuple(told)


def add_told(told, index, power):
    """Put a home row behind a list of told ones, or take out its contrary."""
    if told and told[-1] == (index, -power):
        told.pop()
    else:
        told.append((index, power))


def home_joined(house, thing, told):
    """The reduced row that pairs (index of a home row, 1 or -1) make."""
    rows = home_rows(house, thing)
    return joined([rows[index] if power == 1 else turned(rows[index]) for index, power in told])
