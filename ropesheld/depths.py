"""Depths: rows told by basic ropes, and houses of swaps that tell numbers of plain rows."""

from ropesheld.basics import basic_halves, basic_rope, basic_rows
from ropesheld.houses import House
from ropesheld.rows import core, joined, reduced, times
from ropesheld.series import check_plain, depth, levels_of, plain_rows, posts_in
from ropesheld.signs import POSTS


def multiplied(one, other):
    """The numbers of the product of two sums of plain rows, each of them of one degree."""
    return [x * y for x in one for y in other]


def bracketed(one, other):
    """The numbers of the one sum by the other one, less those of the other one by the one."""
    return [x - y for x, y in zip(multiplied(one, other), multiplied(other, one))]


class BasicParts:
    """The terms of basic ropes of told posts at their depths."""

    def __init__(self, posts):
        self.posts = posts
        self.parts = {post: [1 if post == other else 0 for other in posts] for post in posts}

    def part_of(self, plain):
        """The numbers of all plain rows, as many signs long, in the series of the rope of a basic row."""
        if plain not in self.parts:
            one, other = basic_halves(plain)
            self.parts[plain] = bracketed(self.part_of(one), self.part_of(other))
        return self.parts[plain]

    def told(self, numbers, degree):
        """The pairs (basic row, number) of the ropes whose terms add up to told ones."""
        left, found = numbers, []
        places = places_of(self.posts, degree)
        for plain in basic_rows(self.posts, degree):
            many = left[places[plain]]
            # All other terms of a basic rope are greater ones, so what is told of lesser ones stays.
            if many:
                left = [x - many * y for x, y in zip(left, self.part_of(plain))]
                found.append((plain, many))
        return tuple(found)


def places_of(posts, degree):
    """At which place each plain row of so many signs stands among all of them."""
    return {plain: at for at, plain in enumerate(plain_rows(posts, degree))}


def leading(row):
    """The pairs (basic row, integer) by whose ropes a row is told as deep as it is."""
    deep = depth(row)
    if deep is None:
        return ()
    # Arms change no terms at the depth.
    _, word = core(row)
    posts = posts_in(word)
    return BasicParts(posts).told(levels_of(word, posts, deep)[deep], deep)


def bracket(one, other):
    """What leads the commutator of two rows of which it is told what leads them."""
    if not one or not other:
        return ()
    posts = posts_in("".join([plain for plain, _ in [*one, *other]]))
    parts = BasicParts(posts)
    numbers = bracketed(added_parts(parts, one), added_parts(parts, other))
    return parts.told(numbers, len(one[0][0]) + len(other[0][0]))


def added_parts(parts, told):
    """The sum of the terms of basic ropes, so many times each."""
    total = [0] * len(parts.part_of(told[0][0]))
    for plain, many in told:
        total = [x + many * y for x, y in zip(total, parts.part_of(plain))]
    return total


def collected(row, degree):
    """The pairs (basic row, integer) of at most so many signs by whose ropes a row is told down to a degree."""
    left = reduced(row)
    posts = posts_in(left)
    ropes = BasicSeries(posts, degree)
    rest, found = dict(enumerate(levels_of(left, posts, degree))), []
    for length in range(1, degree + 1):
        places = places_of(posts, length)
        for plain in basic_rows(posts, length):
            many = rest[length][places[plain]]
            if many:
                rest = ropes.ahead(plain, -many, rest)
                found.append((plain, many))
    return tuple(found)


class BasicSeries:
    """The series of basic ropes of told posts, without the 1 at their beginning, down to a degree.

    A series is a dict that tells for degrees the numbers of all plain rows; degrees without terms may be left out.
    """

    def __init__(self, posts, degree):
        self.posts = posts
        self.degree = degree
        self.found = {post: {1: [1 if post == other else 0 for other in posts]} for post in posts}

    def series_of(self, plain):
        """The series of the rope of a basic row, without its 1."""
        if plain not in self.found:
            one, other = [self.series_of(half) for half in basic_halves(plain)]
            # x y x' y' is 1 and, more, what x y is more than y x, multiplied by x' and y'.
            turned = less(self.product(one, other), self.product(other, one))
            rest = self.degree - len(plain)
            turned = self.product(turned, self.turned_series(one, rest))
            self.found[plain] = self.product(turned, self.turned_series(other, rest))
        return self.found[plain]

    def product(self, one, other):
        """The product of two series."""
        found = {}
        for degree, numbers in one.items():
            for more, others in other.items():
                if degree + more <= self.degree:
                    add_level(found, degree + more, multiplied(numbers, others), 1)
        return found

    def turned_series(self, one, degree):
        """The series, down to a degree, of a rope turned, of which the series is told without its 1."""
        found = {0: [1]}
        for at in range(1, degree + 1):
            for part in range(1, at + 1):
                if part in one and at - part in found:
                    add_level(found, at, multiplied(one[part], found[at - part]), -1)
        return found

    def ahead(self, plain, many, series):
        """The series of a row with the rope of a basic row, so many times, ahead of it."""
        rope, total, step, factor, at = self.series_of(plain), dict(series), series, 1, 0
        while step and factor:
            at += 1
            factor = factor * (many - at + 1) // at
            step = self.product(rope, step)
            for degree, numbers in step.items():
                add_level(total, degree, numbers, factor)
        return total


def add_level(series, degree, numbers, many):
    """Add numbers, so many times each, to those of a series at a degree."""
    held = series.get(degree)
    if held is None:
        series[degree] = [many * x for x in numbers]
    else:
        series[degree] = [x + many * y for x, y in zip(held, numbers)]


def less(one, other):
    """The one series less another one."""
    found = dict(one)
    for degree, numbers in other.items():
        add_level(found, degree, numbers, -1)
    return found


def collected_row(pairs):
    """The reduced row of the ropes of basic rows, so many times each, one behind another."""
    return joined([times(basic_rope(plain), many) for plain, many in pairs])


def term_house(posts, plain, by):
    """A house of swaps that tells the rest by a number of the number of a plain row in the series of each row."""
    check_plain(plain, posts)
    things = [()]
    for _ in range(len(plain) + 1):
        things = [numbers + (number,) for numbers in things for number in range(by)]
    places = {numbers: at for at, numbers in enumerate(things)}
    swaps = []
    for post in POSTS[:posts]:
        swaps.append([places[with_post(numbers, plain, post, by)] for numbers in things])
    return House(swaps)


def with_post(numbers, plain, post, by):
    """The numbers of the beginnings of a plain row, rest by a number, with a post's sign behind."""
    led = [numbers[0]]
    for sign, ahead, number in zip(plain, numbers, numbers[1:]):
        led.append((number + ahead) % by if sign == post else number)
    return tuple(led)
