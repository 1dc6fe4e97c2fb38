"""Webs of two webs: what is tied in both or in any of them, and which webs are moved to one another."""

from ropesheld.nets import net_of
from ropesheld.rows import joined, turned
from ropesheld.webs import way_to, web_of, with_line


def meet(one, other):
    """The web of the ropes that are tied in both of two webs."""
    numbers, pairs, net = {(0, 0): 0}, [(0, 0)], []
    while len(net) < len(pairs):
        place, spot = pairs[len(net)]
        steps = {}
        for sign, goal in one.goals[place].items():
            if sign in other.goals[spot]:
                pair = (goal, other.goals[spot][sign])
                if pair not in numbers:
                    numbers[pair] = len(pairs)
                    pairs.append(pair)
                steps[sign] = numbers[pair]
        net.append(steps)
    return web_of(one.posts, net, 0)


def joined_web(one, other):
    """The web of all ropes of two webs."""
    # The places of the other one stand behind those of the one, but both have the place 0.
    numbers = [0] + list(range(one.size, one.size + other.size - 1))
    ties = list(one.ties) + [(numbers[start], post, numbers[goal]) for start, post, goal in other.ties]
    return web_of(one.posts, net_of(one.size + other.size - 1, ties), 0)


def is_within(one, other):
    """Whether all ropes that are tied in the one web are tied in the other one."""
    return spots_along(one, 0, other) is not None


def spots_along(one, home, other):
    """For each place of the one web that of the other one to which the same rows lead, from a place and from 0.

    None if a row that goes along ties in the one web does not in the other one, or ends of one place are unlike there.
    """
    spots, places, at = {home: 0}, [home], 0
    while at < len(places):
        steps, goals = one.goals[places[at]], other.goals[spots[places[at]]]
        for sign, goal in steps.items():
            if sign not in goals:
                return None
            if goal not in spots:
                places.append(goal)
            if spots.setdefault(goal, goals[sign]) != goals[sign]:
                return None
        at += 1
    return [spots[place] for place in range(one.size)]


def moved(web, row):
    """The web of the ropes turned row, rope, row for all ropes of a web."""
    net, end = with_line(web, row)
    return web_of(web.posts, net, end)


def mover(one, other):
    """Some row by which the one web is moved to the other one, or None."""
    ahead, behind = stem(one), stem(other)
    start, goal = moved(one, ahead), moved(other, behind)
    if start.size != goal.size or len(start.ties) != len(goal.ties):
        return None
    for place in range(start.size):
        spots = spots_along(start, place, goal)
        # Unlike places are unlike spots: so, with as many places and ties, all ties of both are the same.
        if spots is not None and len(set(spots)) == goal.size:
            return joined([ahead, way_to(start, place), turned(behind)])
    return None


def stem(web):
    """The row from 0 along which there is but one way, to the first place at which there are more."""
    signs, place, onward = [], 0, list(web.goals[0])
    while len(onward) == 1:
        signs.append(onward[0])
        place = web.goals[place][onward[0]]
        onward = [sign for sign in web.goals[place] if sign != signs[-1].swapcase()]
    return "".join(signs)
