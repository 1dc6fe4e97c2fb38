"""Forms: houses whose things are numbered by the least rows that lead to them."""

from math import factorial

from ropesheld.homes import house_ways
from ropesheld.houses import House, paired


def house_form(house, thing):
    """The house of all things to which rows lead a thing, numbered in the order of house_ways."""
    places = [place for place, _ in house_ways(house, thing)]
    numbers = {place: number for number, place in enumerate(places)}
    return House([[numbers[swap[place]] for place in places] for swap in house.swaps])


def same_home(one, thing, other, spot):
    """Whether just the same rows lead the thing home in the one house and the spot in the other one."""
    return house_form(one, thing) == house_form(other, spot)


def parting_row(one, thing, other, spot):
    """The least row that leads home just one of both, or None."""
    for place, row in house_ways(paired(one, other), thing * other.things + spot):
        goal, further = divmod(place, other.things)
        if (goal == thing) != (further == spot):
            return row
    return None


def forms(posts, things):
    """All houses of so many things that are their own form of the thing 0, ascending by swaps."""
    width = 2 * posts
    found = []
    for goals in form_goals([None] * (things * width), width, 1, 0):
        found.append([goals[sign::width] for sign in range(0, width, 2)])
    return tuple([House(swaps) for swaps in sorted(found)])


def form_goals(goals, width, many, at):
    """All ways to go on to a form with goals of many things, thing by thing and sign by sign, told ahead of `at`.

    The goals are a list with so many places for each thing (its width): one for each sign, None if it is not told.
    """
    if at == many * width:
        return [goals] if at == len(goals) else []
    if goals[at] is not None:
        return form_goals(goals, width, many, at + 1)
    thing, sign = divmod(at, width)
    found = []
    # In a form a new thing comes with the next number: so each form is found once, and nothing else.
    for goal in range(min(many + 1, len(goals) // width)):
        way_back = goal * width + (sign ^ 1)
        if goals[way_back] is None:
            more = list(goals)
            more[at], more[way_back] = goal, thing
            found += form_goals(more, width, max(many, goal + 1), at + 1)
    return found


def many_forms(posts, things):
    """How many forms there are of so many posts and things."""
    found = []
    for many in range(1, things + 1):
        # Of all swaps of so many things, each form of fewer ones leaves those of the other things free.
        total = many * free_swaps(posts, many)
        for fewer, forms_of_fewer in enumerate(found, start=1):
            total -= free_swaps(posts, many - fewer) * forms_of_fewer
        found.append(total)
    return found[-1]


def free_swaps(posts, things):
    """The number of all swaps of so many things, to the power of the posts but one."""
    total = 1
    for _ in range(posts - 1):
        total *= factorial(things)
    return total
