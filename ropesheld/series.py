"""Series of rows: sums of plain rows with whole numbers, by which it is told how deep ropes part."""

from ropesheld.errors import InvalidRow
from ropesheld.rows import core, joined, reduced, turned
from ropesheld.signs import MOST_POSTS, POSTS, check_row, first_wrong


def check_plain(plain, posts=MOST_POSTS):
    """Raise InvalidRow for any value that is no plain row of so many posts."""
    check_row(plain, posts)
    at = first_wrong(plain, POSTS)
    if at is not None:
        raise InvalidRow(at)


def is_plain(value):
    """Whether any value is a plain row."""
    return first_wrong(value, POSTS) is None


def posts_in(row):
    """The letters of the posts that stand in a row, ascending."""
    small = row.lower()
    return "".join([post for post in POSTS if post in small])


def plain_rows(posts, degree):
    """All plain rows of so many signs of told posts, ascending."""
    found = [""]
    for _ in range(degree):
        found = [plain + post for plain in found for post in posts]
    return found


def term(row, plain):
    """The number of a plain row in the series of a row."""
    check_row(row)
    check_plain(plain)
    numbers = [1] + [0] * len(plain)
    ends = {post: [end for end, letter in enumerate(plain, start=1) if letter == post] for post in POSTS}
    for sign in row:
        if sign.islower():
            # Longer beginnings first: a sign stands for its post once at most.
            for at in ends[sign][::-1]:
                numbers[at] += numbers[at - 1]
        else:
            for at in ends[sign.lower()]:
                numbers[at] -= numbers[at - 1]
    return numbers[-1]


def levels_of(row, posts, degree):
    """For each degree up to one the numbers of all plain rows of told posts with so many signs, in a row's series."""
    many, levels = len(posts), [[1]]
    for _ in range(degree):
        levels.append([0] * (len(levels[-1]) * many))
    for sign in row:
        first = posts.index(sign.lower())
        # What a post's sign is put behind has these places: each one of the posts in turn comes last.
        if sign.islower():
            for at in range(degree, 0, -1):
                levels[at][first::many] = [x + y for x, y in zip(levels[at][first::many], levels[at - 1])]
        else:
            for at in range(1, degree + 1):
                levels[at][first::many] = [x - y for x, y in zip(levels[at][first::many], levels[at - 1])]
    return levels


def terms(row, degree):
    """The pairs (plain row of so many signs, number) of all whose number is not 0, ascending."""
    left = reduced(row)
    posts = posts_in(left)
    numbers = levels_of(left, posts, degree)[degree]
    return tuple([(plain, number) for plain, number in zip(plain_rows(posts, degree), numbers) if number])


def depth(row):
    """The least degree from 1 on that has terms, or None for a row that reduces to nothing."""
    # Arms change terms, but not how deep they begin.
    _, word = core(row)
    if word == "":
        return None
    posts, degree = posts_in(word), 1
    while not any(levels_of(word, posts, degree)[degree]):
        degree += 1
    return degree


def commutator(one, other):
    """The reduced row of one, other, one turned, other turned."""
    return joined([one, other, turned(one), turned(other)])


def parted(one, other):
    """The reduced row of the one with the other one turned behind it."""
    check_row(one)
    check_row(other)
    return joined([one, turned(other)])


def parting_depth(one, other):
    """How deep two rows part, or None for alike rows."""
    return depth(parted(one, other))


def parting_plain(one, other):
    """The least plain row whose numbers in the series of two rows are unlike, or None for alike rows."""
    _, word = core(parted(one, other))
    deep = depth(word)
    # The other one's series begins with 1: so the series of both differ first as that of this row does from 1, and
    # arms change nothing there.
    return None if deep is None else terms(word, deep)[0][0]


def plain_parts(one, other, value):
    """Whether any value is a plain row with unlike numbers in the series of two rows."""
    check_row(one)
    check_row(other)
    return is_plain(value) and term(one, value) != term(other, value)
