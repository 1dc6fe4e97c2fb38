"""Grown ropes: how long rows are, and what stands in them, if a map is done again and again."""

from ropesheld.errors import NoTrain
from ropesheld.maps import table
from ropesheld.rows import reduced, turned, windings
from ropesheld.signs import POSTS, check_row
from ropesheld.trains import is_smooth, is_train


def check_grown(one, row):
    """Raise an error for any value that is no row, for a map that is no train, or a row that is not smooth."""
    check_row(row, one.posts)
    if not is_train(one):
        raise NoTrain("map")
    if not is_smooth(one, row):
        raise NoTrain("row")


def signs_told(row, posts):
    """For each post how often its signs stand in a row, either way."""
    return windings(row.lower(), posts)


def sign_table(one):
    """For each row of a map how often the signs of each post stand in it, either way."""
    return tuple([signs_told(row, one.posts) for row in one.rows])


def led_once(numbers, by_post):
    """What numbers for the posts come to, if each post stands for the numbers of a table."""
    return tuple([sum([many * row[at] for many, row in zip(numbers, by_post)]) for at in range(len(numbers))])


def led_often(numbers, by_post, many):
    """What numbers for the posts come to if they are led so many times."""
    led = numbers
    for _ in range(many):
        led = led_once(led, by_post)
    return led


def rests_of(numbers, by):
    """The rests of numbers."""
    return tuple([number % by for number in numbers])


def rests_led(numbers, by_post, many, by):
    """The rests of what numbers for the posts come to if they are led so many times, also very many."""
    led, step, left = rests_of(numbers, by), [rests_of(row, by) for row in by_post], many
    while left > 0:
        if left & 1:
            led = rests_of(led_once(led, step), by)
        # The table of two steps at once, of four, and so on.
        step = [rests_of(led_once(row, step), by) for row in step]
        left //= 2
    return led


def tallies(one, row, many):
    """For each post how often its signs come in the reduced row led so many times."""
    check_grown(one, row)
    return led_often(signs_told(reduced(row), one.posts), sign_table(one), many)


def long(one, row, many):
    """How many signs the reduced row led so many times has."""
    return sum(tallies(one, row, many))


def long_rest(one, row, many, by):
    """The rest by a number of the length of the reduced row led so many times."""
    check_grown(one, row)
    return sum(rests_led(signs_told(reduced(row), one.posts), sign_table(one), many, by)) % by


def sign_led(one, row, many, n):
    """The sign with a number in the reduced row led so many times, or None if there are not so many."""
    check_grown(one, row)
    by_post = sign_table(one)
    # For each number of times how long each post has grown.
    lengths = [tuple([1] * one.posts)]
    for _ in range(many):
        lengths.append(tuple([sum([x * y for x, y in zip(told, lengths[-1])]) for told in by_post]))
    word, rest = reduced(row), n
    for grown in lengths[::-1]:
        sign, rest = sign_at(word, rest, grown)
        if sign is None:
            return None
        image = one.rows[POSTS.index(sign.lower())]
        word, last = image if sign.islower() else turned(image), sign
    return last


def sign_at(word, number, grown):
    """The sign of a word of which the sign with a number is grown, and the number within this; (None, 0) beyond."""
    rest = number
    for sign in word:
        length = grown[POSTS.index(sign.lower())]
        if rest < length:
            return sign, rest
        rest -= length
    return None, 0


def goals_of(one):
    """For each post the list of the posts that come of it at some time behind."""
    steps = [[goal for goal, many in enumerate(told) if many] for told in sign_table(one)]
    found = []
    for step in steps:
        reached = list(step)
        at = 0
        while at < len(reached):
            reached += [goal for goal in steps[reached[at]] if goal not in reached]
            at += 1
        found.append(reached)
    return found


def growth(one, row):
    """The power of the number of times by which a smooth row grows with a train, or "double"."""
    check_grown(one, row)
    goals, told = goals_of(one), sign_table(one)
    starts = [at for at, many in enumerate(signs_told(reduced(row), one.posts)) if many]
    reached = sorted({goal for start in starts for goal in [start, *goals[start]]})
    back = [post for post in reached if post in goals[post]]
    for post in back:
        ring = [goal for goal in goals[post] if post in goals[goal]]
        if sum([told[post][goal] for goal in ring]) > 1:
            return "double"
    return max([rings_behind(post, goals) for post in back], default=1) - 1


def rings_behind(post, goals):
    """How many rings, one behind another, there are at most from a post on that comes back to itself."""
    behind = [goal for goal in goals[post] if goal in goals[goal] and post not in goals[goal]]
    return 1 + max([rings_behind(goal, goals) for goal in behind], default=0)


def cycle(one, row):
    """The least pair (begin, turn) so that the row led so many times comes again a turn later, or None."""
    if growth(one, row) != 0:
        return None
    led, times = reduced(row), {}
    while led not in times:
        times[led] = len(times)
        led = one.led(led)
    return times[led], len(times) - times[led]


def windings_led(one, row, many):
    """The windings of the row led so many times."""
    return led_often(windings(row, one.posts), table(one), many)


def windings_rest(one, row, many, by):
    """The rests by a number of the windings of the row led so many times."""
    return rests_led(windings(row, one.posts), table(one), many, by)
