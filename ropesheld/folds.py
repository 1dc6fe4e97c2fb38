"""Folds: groups of things of a house that are led as one."""

from ropesheld.houses import House
from ropesheld.signs import is_number


def folds(house):
    """All folds of a house, ascending."""
    found = [()]
    for _ in range(house.things):
        longer = [groups + (group,) for groups in found for group in range(max(groups, default=-1) + 2)]
        found = [groups for groups in longer if are_led_as_one(house, groups)]
    return tuple(found)


def are_led_as_one(house, groups):
    """Whether the first things, with such groups, are led by each swap group to group, one to one."""
    return all([is_one_to_one(swap, groups) for swap in house.swaps])


def is_one_to_one(swap, groups):
    """Whether a swap leads the first things, as far as to one another, group to group, one to one."""
    goals, starts = {}, {}
    for thing, group in enumerate(groups):
        if swap[thing] < len(groups):
            goal = groups[swap[thing]]
            if goals.setdefault(group, goal) != goal or starts.setdefault(goal, group) != group:
                return False
    return True


def fold_holds(house, value):
    """Whether any value is a fold of a house."""
    if not isinstance(value, tuple) or len(value) != house.things:
        return False
    many = 0
    for group in value:
        if not is_number(group) or group > many:
            return False
        many = max(many, group + 1)
    return are_led_as_one(house, value)


def folded(house, fold):
    """The house of the groups of a fold."""
    swaps = []
    for swap in house.swaps:
        goals = [0] * (max(fold) + 1)
        for thing, group in enumerate(fold):
            goals[group] = fold[swap[thing]]
        swaps.append(goals)
    return House(swaps)
