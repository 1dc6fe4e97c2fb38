"""Knots: how told ropes are put together to make a row, or nothing at all.

A knot is a tuple of integers here: n stands for the rope with the number n - 1, and -n for this rope turned. Numbers
beyond those of the ropes are names of knots that are too long to be written each time.

The told ropes are rings of ties at the place 0, and the rows that are asked for are lines that begin there. Places to
which one sign leads from one place are made one, and each time it is kept which knot leads from the one to the other:
it is what is passed on the way, if only the last tie of each ring has a knot, its rope. A line of which the end is made
one with 0 is the row of the knot between them.
"""

from heapq import heappop, heappush

from ropesheld.rows import reduced

LONGEST = 60


def knots_for(ropes, rows):
    """For each of some tied rows some knot."""
    tangle = Tangle(ropes, rows)
    tangle.make_one()
    return [tangle.written_out(tangle.now_in(end)[1]) for end in tangle.ends]


def idle_knot(ropes):
    """Some idle knot of ropes that are not free."""
    tangle = Tangle(ropes, [])
    tangle.make_one()
    return tangle.written_out(tangle.idle[0])


def turned_knot(knot):
    """The knot the other way about."""
    return tuple([-number for number in knot[::-1]])


def knot_on(knot, more):
    """The knot and, behind it, more, without ropes beside themselves the other way about."""
    at, most = 0, min(len(knot), len(more))
    while at < most and knot[-at - 1] == -more[at]:
        at += 1
    return knot[:len(knot) - at] + more[at:]


def add_behind(numbers, knot):
    """Put a knot behind a list of numbers, likewise."""
    for number in knot:
        if numbers and numbers[-1] == -number:
            numbers.pop()
        else:
            numbers.append(number)


class Tangle:
    """The rings of told ropes and the lines of rows, with the places that are made one."""

    def __init__(self, ropes, lines):
        self.many = len(ropes)
        self.weights = [0] + [1] * self.many
        self.named = []
        self.idle = []
        self.queue = []
        self.waiting = 0
        self.steps = [{}]
        self.into = [(0, ())]
        for number, rope in enumerate(ropes, start=1):
            self.add_ring(number, reduced(rope))
        self.ends = [self.add_line(0, reduced(line)) for line in lines]

    def add_ring(self, number, row):
        """Take in the ring of a rope."""
        if row:
            self.add_tie(self.add_line(0, row[:-1]), row[-1], 0, (number,))
        else:
            self.idle.append((number,))

    def add_line(self, start, row):
        """Take in a line of new places, and tell its end."""
        place = start
        for sign in row:
            self.steps.append({})
            self.into.append((len(self.into), ()))
            self.add_tie(place, sign, len(self.into) - 1, ())
            place = len(self.into) - 1
        return place

    def add_tie(self, start, sign, goal, knot):
        """Take in a tie with its knot, both ways."""
        self.add_step(start, sign, goal, knot)
        self.add_step(goal, sign.swapcase(), start, turned_knot(knot))

    def add_step(self, start, sign, goal, knot):
        """Take in a step with its knot; if the sign leads on already, both goals are to be made one."""
        if sign in self.steps[start]:
            other, held = self.steps[start][sign]
            self.keep(goal, other, knot_on(turned_knot(knot), held))
            if self.weight_of(held) <= self.weight_of(knot):
                return
        self.steps[start][sign] = (goal, self.brief(knot))

    def keep(self, one, other, knot):
        """Keep for later that two places are one, with the knot that leads from the one to the other one."""
        self.waiting += 1
        heappush(self.queue, (self.weight_of(knot), self.waiting, one, other, knot))

    def weight_of(self, knot):
        """How many ropes a knot has, with all names written out."""
        return sum([self.weights[abs(number)] for number in knot])

    def brief(self, knot):
        """The knot, or a name for it if it is long."""
        if len(knot) <= LONGEST:
            return knot
        self.named.append(knot)
        self.weights.append(self.weight_of(knot))
        return (self.many + len(self.named),)

    def make_one(self):
        """Make places one until what is looked for is found; lighter knots come first, so that they stay light."""
        while not self.is_done():
            weight, _, one, other, knot = heappop(self.queue)
            (one, ahead), (other, behind) = self.now_in(one), self.now_in(other)
            knot = knot_on(knot_on(turned_knot(ahead), knot), behind)
            if self.weight_of(knot) > weight:
                self.keep(one, other, knot)
            elif one == other:
                self.idle += [knot] if knot else []
            elif other == 0 or one != 0 and len(self.steps[other]) > len(self.steps[one]):
                self.put_into(other, one, turned_knot(knot))
            else:
                self.put_into(one, other, knot)

    def is_done(self):
        """Whether all lines end at 0; without lines, whether there is an idle knot."""
        if not self.ends:
            return len(self.idle) > 0
        return all([self.now_in(end)[0] == 0 for end in self.ends])

    def put_into(self, kept, gone, knot):
        """Make a place, to which a knot leads from another one, a part of that one."""
        short = self.brief(knot)
        self.into[gone] = (kept, turned_knot(short))
        onward = self.steps[gone]
        self.steps[gone] = {}
        for sign, (goal, more) in onward.items():
            self.add_step(kept, sign, goal, knot_on(short, more))

    def now_in(self, place):
        """The place of which a place is a part by now, and the knot that leads from the place to it."""
        passed, last = [], place
        while self.into[last][0] != last:
            passed.append(last)
            last = self.into[last][0]
        knot = ()
        for part in passed[::-1]:
            knot = self.brief(knot_on(self.into[part][1], knot))
            self.into[part] = (last, knot)
        return last, knot

    def written_out(self, knot):
        """The knot with ropes alone."""
        numbers = list(knot)
        # Names are told by earlier ones: so the latest one comes first, and what it hides can reduce at once.
        latest = max([abs(number) for number in knot], default=0)
        while latest > self.many:
            told = self.named[latest - self.many - 1]
            parts = {latest: told, -latest: turned_knot(told)}
            held, numbers = numbers, []
            for number in held:
                add_behind(numbers, parts.get(number, (number,)))
            latest = max([abs(number) for number in numbers], default=0)
        return tuple(numbers)
