"""Pushes: small changes of walks that leave the reduced crossing row as it is."""

from ropesheld.rows import alike
from ropesheld.signs import agreeing, is_chain, meeting_chain, signs_of, taken_out
from ropesheld.walks import back, check_walk, crossing_row, end, is_walk, passed_post, round_of, step_sign, walk_of

THERE_AND_BACK = ("ns", "ew", "sn", "we")
CORNERS = ("ne", "nw", "se", "sw", "en", "es", "wn", "ws")


def alike_walks(one, other, posts):
    """Whether some pushes lead the one walk to the other one."""
    check_walk(one)
    check_walk(other)
    return end(one) == end(other) and alike(crossing_row(one, posts), crossing_row(other, posts))


def push_chain(one, other, posts):
    """Some tuple of walks from the one to the other, each next one led to by one push, or None."""
    if not alike_walks(one, other, posts):
        return None
    return meeting_chain(plain_chain(one, posts), plain_chain(other, posts))


def plain_chain(walk, posts):
    """The walks from a walk to its plain one, each next one led to by one push."""
    chain, row, straight, at = [walk], "", "", 0
    while at < len(walk):
        # A round that stands there already is taken as it is: pushing it step by step would lead back to it.
        sign = "" if straight else round_at(walk, at, posts)
        if sign:
            beginnings, row = with_sign(row, sign)
            at += len(round_of(sign))
        else:
            beginnings, row, straight = with_step(row, straight, walk[at], posts)
            at += 1
        chain += [beginning + walk[at:] for beginning in beginnings]
    return chain


def round_at(walk, at, posts):
    """The sign around whose post a walk goes once from this step on, or ""."""
    for sign in signs_of(posts):
        if walk.startswith(round_of(sign), at):
            return sign
    return ""


def with_sign(row, sign):
    """The walks that take out the round of a sign behind a row and that of its other one, and the row that is left."""
    if not row.endswith(sign.swapcase()):
        return [], row + sign
    ahead, both = walk_of(row[:-1]), round_of(row[-1]) + round_of(sign)
    middle = len(both) // 2
    return [ahead + both[:middle - less] + both[middle + less:] for less in range(1, middle + 1)], row[:-1]


def with_step(row, straight, step, posts):
    """The walks from a plain walk with a step behind it to a plain one, with the row and the straight steps of this."""
    level = straight.rstrip("ns")
    upright = straight[len(level):]
    if step in "ew":
        post = passed_post(end(level)[0], step)
        if upright.startswith("s") and 0 <= post < posts:
            return below_post(row, level, upright, step)
        return beside_posts(row, level, upright, step)
    if upright.endswith(back(step)):
        return [walk_of(row) + straight[:-1]], row, straight[:-1]
    return [], row, straight + step


def slid(ahead, upright, step, stay):
    """The walks in which a step e or w goes ahead of all steps up or down but the first ones that stay."""
    return [ahead + upright[:at] + step + upright[at:] for at in reversed(range(stay, len(upright)))]


def beside_posts(row, level, upright, step):
    """What with_step tells if no post bars the step from the straight steps e or w."""
    ahead = walk_of(row)
    walks = slid(ahead + level, upright, step, 0)
    if not level.endswith(back(step)):
        return walks, row, level + step + upright
    return walks + [ahead + level[:-1] + upright], row, level[:-1] + upright


def below_post(row, level, upright, step):
    """What with_step tells if a post bars the step: with the way home above the post it is a round."""
    ahead = walk_of(row)
    walks = slid(ahead + level, upright, step, 1)
    below = ahead + level + "s" + step + "n"
    far = end(level + step)[0]
    walks += [below + "w" * many + "e" * many + upright for many in range(far + 1)]
    sign = step_sign(passed_post(end(level)[0], step), step)
    outs, left = with_sign(row, sign)
    straight = "e" * far + upright
    return walks + [out + straight for out in outs], left, straight


def push_chain_holds(one, other, posts, value):
    """Whether any value is a tuple of walks from the one to the other, each next one led to by one push."""
    check_walk(one)
    check_walk(other)
    return is_chain(value, one, other, is_walk, lambda walk, following: is_push(walk, following, posts))


def is_push(one, other, posts):
    """Whether one push leads the one walk to the other one."""
    if len(one) == len(other):
        return is_exchange(one, other, posts)
    shorter, longer = sorted([one, other], key=len)
    return taken_out(longer, shorter) in THERE_AND_BACK


def is_exchange(one, other, posts):
    """Whether the walks differ in the order of two steps alone, which go along a square without a post."""
    at = agreeing(one, other)
    corner = one[at:at + 2]
    if corner not in CORNERS or one[:at] + corner[::-1] + one[at + 2:] != other:
        return False
    x, y = end(one[:at])
    u, v = end(one[:at + 2])
    return min(y, v) != 0 or not 0 <= min(x, u) < posts
