"""Web counts: how many reduced rows of a length are tied in a web, or lead a thing of a house home."""

from ropesheld.counts import numbered_row
from ropesheld.signs import signs_of


class Homecomings:
    """How many reduced rows lead home along ties, told for beginnings of rows.

    The goals are dicts, one for each place, that tell to which place each sign leads.
    """

    def __init__(self, goals, home, length):
        self.goals = goals
        self.home = home
        # For each number of signs that are left, by the place and the sign that led there.
        self.tables = [{(goal, sign): 1 if goal == home else 0 for steps in goals for sign, goal in steps.items()}]
        for _ in range(length - 1):
            self.tables.append(self.one_sign_more(self.tables[-1]))

    def one_sign_more(self, less):
        """How many rows lead home, if it is told how many do with one sign less."""
        totals = [sum([less[goal, sign] for sign, goal in steps.items()]) for steps in self.goals]
        found = {}
        for place, last in less:
            # All go on from there but the one that turns back at once.
            back = last.swapcase()
            found[place, last] = totals[place] - less[self.goals[place][back], back]
        return found

    def behind(self, row, left):
        """How many reduced rows of so many signs more begin with a reduced row and lead home."""
        place = self.home
        for sign in row:
            if sign not in self.goals[place]:
                return 0
            place = self.goals[place][sign]
        if row:
            return self.tables[left][place, row[-1]]
        if left == 0:
            return 1
        return sum([self.tables[left - 1][goal, sign] for sign, goal in self.goals[place].items()])


def goals_of(house):
    """For each thing of a house where each sign leads it."""
    signs = signs_of(house.posts)
    return [{sign: house.by_sign[sign][thing] for sign in signs} for thing in range(house.things)]


def many_within(web, length):
    """How many reduced rows of a length are tied in a web."""
    return Homecomings(web.goals, 0, length).behind("", length)


def within_at(web, length, number):
    """The reduced row of a length that is tied in a web and has a number among these, or None."""
    some = Homecomings(web.goals, 0, length)
    return numbered_row(web.posts, length, number, lambda row, left: some.behind(row, left))


def many_home(house, thing, length):
    """How many reduced rows of a length lead a thing of a house home."""
    return Homecomings(goals_of(house), thing, length).behind("", length)


def home_at(house, thing, length, number):
    """The reduced row of a length that leads a thing of a house home and has a number among these, or None."""
    some = Homecomings(goals_of(house), thing, length)
    return numbered_row(house.posts, length, number, lambda row, left: some.behind(row, left))
