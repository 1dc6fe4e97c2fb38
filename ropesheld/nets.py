"""Nets: places and the steps between them, of which webs are made.

A net is a list with a dict for each place, which tells to which place each sign leads; where a sign leads from one
place to another one, its other sign leads back.
"""

from ropesheld.signs import signs_of


def ring_ties(rows):
    """How many places there are, and the ties (place, sign, place), with a ring at 0 for each of some reduced rows."""
    ties, many = [], 1
    for row in rows:
        place = 0
        for sign in row[:-1]:
            ties.append((place, sign, many))
            place, many = many, many + 1
        if row:
            ties.append((place, row[-1], 0))
    return many, ties


def net_of(many, ties):
    """The net of so many places and some ties; places to which one sign leads from one place are made one."""
    net, into = [{} for _ in range(many)], list(range(many))
    left = ties + [(goal, sign.swapcase(), start) for start, sign, goal in ties]
    while left:
        start, sign, goal = left.pop()
        start, goal = now_in(into, start), now_in(into, goal)
        held = now_in(into, net[start].setdefault(sign, goal))
        if held != goal:
            # The lesser one stays, so 0 always does.
            kept, gone = min(held, goal), max(held, goal)
            into[gone] = kept
            left += [(kept, further, place) for further, place in net[gone].items()]
            net[gone] = {}
    return [{sign: now_in(into, goal) for sign, goal in steps.items()} for steps in net]


def now_in(into, place):
    """The place of which a place is a part by now."""
    last = place
    while into[last] != last:
        last = into[last]
    # Whoever asks once more finds it at once.
    passed = place
    while into[passed] != last:
        following = into[passed]
        into[passed] = last
        passed = following
    return last


def pruned(net, home):
    """The net without the ties that lie on no reduced row from home to home."""
    steps = [dict(held) for held in net]
    ends = [place for place in range(len(steps)) if place != home and len(steps[place]) == 1]
    while ends:
        place = ends.pop()
        last = steps[place]
        steps[place] = {}
        for sign, goal in last.items():
            del steps[goal][sign.swapcase()]
            if goal != home and len(steps[goal]) == 1:
                ends.append(goal)
    return steps


def numbered(net, posts, home):
    """The net of the places to which rows lead from home, numbered by their least rows, and how these rows end.

    The ends are pairs (place, sign): the least row to the place, and the sign, are the least row (a pair of no use
    for 0, to which the empty row leads).
    """
    numbers, places, ends, at = {home: 0}, [home], [(0, "")], 0
    while at < len(places):
        steps = net[places[at]]
        for sign in signs_of(posts):
            if sign in steps and steps[sign] not in numbers:
                numbers[steps[sign]] = len(places)
                places.append(steps[sign])
                ends.append((at, sign))
        at += 1
    goals = [{sign: numbers[goal] for sign, goal in net[place].items()} for place in places]
    return tuple(goals), tuple(ends)


def is_tied(rows, row):
    """Whether a reduced row is tied of some reduced rows."""
    many, ties = ring_ties(rows)
    net, place = net_of(many, ties), 0
    for sign in row:
        if sign not in net[place]:
            return False
        place = net[place][sign]
    return place == 0
