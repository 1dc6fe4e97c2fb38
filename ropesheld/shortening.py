"""How short ropes can be made by maps that can be undone."""

from ropesheld.maps import Map, led_after, plain_map, turning_map
from ropesheld.rows import core, reduced, turned
from ropesheld.signs import POSTS, check_row, row_order, signs_of
from ropesheld.undoing import first_missed, undone


def changes(posts):
    """All changes but the plain one, ascending by their texts."""
    found = []
    for sign in signs_of(posts):
        found += [Map(posts, rows) for rows in changed_rows(sign, posts)]
    plain = plain_map(posts)
    return tuple([one for one in sorted(found, key=str) if one != plain])


def changed_rows(sign, posts):
    """The rows of all changes by a sign."""
    found = [[]]
    for post in POSTS[:posts]:
        choices = [post]
        if post != sign.lower():
            choices += [post + sign, sign.swapcase() + post, sign.swapcase() + post + sign]
        found = [rows + [choice] for rows in found for choice in choices]
    return found


def core_length(row):
    """How many signs the core of a row has."""
    return len(core(row)[1])


def shortening(row, posts):
    """Some change after which the core of a row is shorter, or None."""
    check_row(row, posts)
    return shorter_by(row, changes(posts))


def shorter_by(row, some):
    """The first one of some changes after which the core of a row is shorter, or None."""
    length = core_length(row)
    for change in some:
        if core_length(change.led(row)) < length:
            return change
    return None


def is_shortest(row, posts):
    """Whether no map that can be undone leads a row to one with a shorter core."""
    return shortening(row, posts) is None


def shortest(row, some):
    """The shortest core to which changes lead a row, and the maps that lead there, one after another."""
    maps, left = [], row
    change = shorter_by(left, some)
    while change is not None:
        maps.append(change)
        left = change.led(left)
        change = shorter_by(left, some)
    return left, maps


def renamed(word):
    """The least word to which exchanging posts, or posts and their other signs, leads a word, and the new names."""
    names = {}
    for sign in word:
        if sign not in names:
            post = POSTS[len(names) // 2]
            names[sign], names[sign.swapcase()] = post, post.upper()
    return "".join([names[sign] for sign in word]), names


def least_name(word):
    """The least word to which turning and exchanging leads a word, and the beginning that is put behind."""
    found = [(renamed(word[at:] + word[:at])[0], word[:at]) for at in range(max(len(word), 1))]
    return min(found, key=lambda pair: row_order(pair[0]))


def naming_map(row, posts):
    """A map that can be undone and leads a row to the least name of its core."""
    arm, word = core(row)
    turning = turning_map(posts, turned(arm + least_name(word)[1]))
    _, names = renamed(turning.led(row))
    free = [post for post in POSTS[:posts] if post not in list(names.values())]
    rows = []
    for post in POSTS[:posts]:
        rows.append(names[post] if post in names else free.pop())
    return led_after(Map(posts, rows), turning)


def names_from(word, some, goal):
    """All least names to which changes lead a core without making it longer on the way, or those until a goal.

    For each there is the one ahead and the change that leads on from there, None for the first one.
    """
    ahead, words, at = {word: None}, [word], 0
    while at < len(words) and goal not in ahead:
        for change in some:
            following = core(change.led(words[at]))[1]
            if len(following) == len(word):
                name, _ = least_name(following)
                if name not in ahead:
                    ahead[name] = (words[at], change)
                    words.append(name)
        at += 1
    return ahead


def least_by_maps(row, posts):
    """The least row to which maps that can be undone lead a row."""
    check_row(row, posts)
    some = changes(posts)
    left, _ = shortest(row, some)
    name, _ = least_name(core(left)[1])
    return min(list(names_from(name, some, None)), key=row_order)


def same_by_maps(one, other, posts):
    """Whether some map that can be undone leads the one row to the other one."""
    return least_by_maps(one, posts) == least_by_maps(other, posts)


def map_between(one, other, posts):
    """Some map that can be undone and leads the one row to the other one, or None."""
    check_row(one, posts)
    check_row(other, posts)
    some = changes(posts)
    (start, maps), (goal, back) = shortest(one, some), shortest(other, some)
    maps, back = maps + [naming_map(start, posts)], back + [naming_map(goal, posts)]
    name, last = maps[-1].led(start), back[-1].led(goal)
    ahead = names_from(name, some, last)
    if last not in ahead:
        return None
    whole = plain_map(posts)
    for step in maps + steps_to(last, ahead, posts):
        whole = led_after(step, whole)
    for step in back[::-1]:
        whole = led_after(undone(step), whole)
    return whole


def steps_to(last, ahead, posts):
    """The maps, one after another, that lead from the first name to the last one."""
    steps, name = [], last
    while ahead[name] is not None:
        earlier, change = ahead[name]
        steps.append(led_after(naming_map(change.led(earlier), posts), change))
        name = earlier
    return steps[::-1]


def between_holds(one, other, posts, value):
    """Whether any value is a map that can be undone and leads the one row to the other one."""
    check_row(one, posts)
    check_row(other, posts)
    if not isinstance(value, Map) or value.posts != posts or value.led(one) != reduced(other):
        return False
    return first_missed(value) is None


def is_free_part(row, posts):
    """Whether a row is one of as many rows as there are posts, of which all are tied."""
    return len(least_by_maps(row, posts)) == 1
