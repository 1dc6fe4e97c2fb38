"""Rows of signs: what they reduce to, and the moves between them."""

from ropesheld.signs import POSTS, check_row, is_chain, is_row, meeting_chain, taken_out


def reduced(row):
    """The row to which a row comes by taking out alone."""
    check_row(row)
    left = []
    for sign, contrary in zip(row, row.swapcase()):
        if left and left[-1] == contrary:
            left.pop()
        else:
            left.append(sign)
    return "".join(left)


def is_reduced(row):
    """Whether no sign stands beside its other one."""
    return reduced(row) == row


def turned(row):
    """The row read backwards, each sign as its other one."""
    check_row(row)
    return row[::-1].swapcase()


def joined(rows):
    """The reduced row of rows one behind another."""
    for row in rows:
        check_row(row)
    return reduced("".join(rows))


def core(row):
    """The pair (arm, core) of a row: it is alike to the arm, the core and the turned arm."""
    whole = reduced(row)
    at = 0
    while at < len(whole) // 2 and whole[at] == whole[-at - 1].swapcase():
        at += 1
    return whole[:at], whole[at:len(whole) - at]


def times(row, many):
    """The reduced row of a row so many times, turned for a number below 0."""
    arm, middle = core(row)
    if many < 0:
        middle, many = turned(middle), -many
    # Nothing reduces where cores meet; but without any core the arm would stand beside itself turned.
    return arm + middle * many + turned(arm) if many else ""


def windings(row, posts):
    """For each post how often its letter stands in a row, less how often its capital."""
    check_row(row, posts)
    return tuple([row.count(post) - row.count(post.upper()) for post in POSTS[:posts]])


def without(row, lot):
    """The row without the signs of the posts of a lot."""
    check_row(row)
    left = row
    for post in lot:
        left = left.replace(post, "").replace(post.upper(), "")
    return left


def alike(one, other):
    """Whether some moves lead the one row to the other one."""
    return reduced(one) == reduced(other)


def chain(one, other):
    """Some tuple of rows from the one to the other, each next one led to by one move, or None."""
    if not alike(one, other):
        return None
    return meeting_chain(steps_down(one), steps_down(other))


def steps_down(row):
    """The rows from a row to its reduced one, each next one with two signs less."""
    steps, left = [row], []
    for at, sign in enumerate(row):
        if left and left[-1] == sign.swapcase():
            left.pop()
            steps.append("".join(left) + row[at + 1:])
        else:
            left.append(sign)
    return steps


def chain_holds(one, other, value):
    """Whether any value is a chain from the one row to the other one."""
    check_row(one)
    check_row(other)
    return is_chain(value, one, other, is_row, is_move)


def is_move(one, other):
    """Whether one move leads the one row to the other one."""
    shorter, longer = sorted([one, other], key=len)
    pair = taken_out(longer, shorter)
    return len(pair) == 2 and pair[0] == pair[1].swapcase()
