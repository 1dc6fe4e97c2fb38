"""Houses of swaps: each post exchanges things, and rows lead them."""

from math import lcm

from ropesheld.errors import InvalidHouse, InvalidText
from ropesheld.signs import MOST_POSTS, POSTS, check_row, is_number, is_sequence


class House:
    """Things, numbered from 0, and for each post a swap of them."""

    def __init__(self, swaps):
        at = first_no_swap(swaps)
        if at is not None:
            raise InvalidHouse(at)
        self.swaps = tuple([tuple(swap) for swap in swaps])
        self.posts = len(self.swaps)
        self.things = len(self.swaps[0])
        self.by_sign = swaps_by_sign(self.swaps)

    def __eq__(self, other):
        return isinstance(other, House) and self.swaps == other.swaps

    def __str__(self):
        return " | ".join([" ".join([str(goal) for goal in swap]) for swap in self.swaps])

    @staticmethod
    def read(text):
        """The house with such a text."""
        return House(told_swaps(text))


def first_no_swap(swaps):
    """The number that InvalidHouse tells for any value, None for the swaps of a house."""
    if not is_sequence(swaps) or not 1 <= len(swaps) <= MOST_POSTS or not is_sequence(swaps[0]):
        return 0
    for at, swap in enumerate(swaps):
        if not is_swap(swap, len(swaps[0])):
            return at
    return None


def is_swap(value, things):
    """Whether any value tells for each of so many things (at least one) where it goes, one to one."""
    if not is_sequence(value) or things == 0 or not all([is_number(goal) for goal in value]):
        return False
    return sorted(value) == list(range(things))


def swaps_by_sign(swaps):
    """For each sign the swap that it does: a capital does its post's the other way."""
    found = {}
    for post, swap in zip(POSTS, swaps):
        found[post] = swap
        found[post.upper()] = swap_back(swap)
    return found


def swap_back(swap):
    """The swap that leads all things back."""
    starts = [0] * len(swap)
    for thing, goal in enumerate(swap):
        starts[goal] = thing
    return tuple(starts)


def told_swaps(text):
    """The lists of numbers that the text of a house tells."""
    if not isinstance(text, str):
        raise InvalidText(0)
    swaps = []
    for at, part in enumerate(text.split(" | ")):
        words = part.split(" ")
        if not all([is_short_number(word) for word in words]):
            raise InvalidText(at)
        swaps.append([int(word) for word in words])
    return swaps


def is_short_number(word):
    """Whether a word is a number of at most three decimal digits without leading zeros."""
    return word.isascii() and word.isdigit() and len(word) <= 3 and (word == "0" or not word.startswith("0"))


def led_to(house, thing, row):
    """Where a row leads a thing."""
    check_row(row, house.posts)
    place = thing
    for sign in row:
        place = house.by_sign[sign][place]
    return place


def swap_of(house, row):
    """Where a row leads each thing."""
    check_row(row, house.posts)
    goals = list(range(house.things))
    for sign in row:
        swap = house.by_sign[sign]
        goals = [swap[goal] for goal in goals]
    return tuple(goals)


def is_still(house, row):
    """Whether a row leads all things home."""
    return swap_of(house, row) == tuple(range(house.things))


def swap_rounds(house, row):
    """The rounds in which things go if a row is done again and again."""
    swap = swap_of(house, row)
    return lots_of(house.things, lambda thing: round_from(swap, thing))


def lots_of(things, lot_from):
    """The lots in which things lie, each told from its least thing, by these ascending."""
    found = []
    seen = set()
    for thing in range(things):
        if thing not in seen:
            lot = lot_from(thing)
            found.append(lot)
            for place in lot:
                seen.add(place)
    return tuple(found)


def round_from(swap, thing):
    """The things to which a swap, done again and again, leads a thing, until it is home."""
    places = [thing]
    while swap[places[-1]] != thing:
        places.append(swap[places[-1]])
    return tuple(places)


def swap_order(house, row):
    """The least number from 1 on, so many times which a row is still."""
    order = 1
    for places in swap_rounds(house, row):
        order = lcm(order, len(places))
    return order


def orbits(house):
    """The lots of things that rows lead to one another."""
    return lots_of(house.things, lambda thing: orbit_of(house, thing))


def orbit_of(house, thing):
    """The lot of the things to which rows lead a thing."""
    # Small letters are enough: done again and again, a swap also leads all things back.
    lot, at = [thing], 0
    seen = {thing}
    while at < len(lot):
        for swap in house.swaps:
            goal = swap[lot[at]]
            if goal not in seen:
                seen.add(goal)
                lot.append(goal)
        at += 1
    return tuple(sorted(lot))


def beside(one, other):
    """The house with the things of both, those of the other one behind."""
    swaps = []
    for swap, further in zip(one.swaps, other.swaps):
        swaps.append(list(swap) + [one.things + goal for goal in further])
    return House(swaps)


def paired(one, other):
    """The house with a thing for each pair of things, led as both are."""
    swaps = []
    for swap, further in zip(one.swaps, other.swaps):
        swaps.append([goal * other.things + spot for goal in swap for spot in further])
    return House(swaps)


def stilled(house, pulled):
    """The house in which the pulled posts lead all things home."""
    still = tuple(range(house.things))
    return House([still if post in pulled else swap for post, swap in zip(POSTS, house.swaps)])
