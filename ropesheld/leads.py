"""Leads: neighbouring posts are led round one another, and all ropes that are laid there along with them."""

from ropesheld.errors import InvalidLead, NoPost
from ropesheld.rows import core, is_reduced, joined, reduced, times, turned
from ropesheld.signs import MOST_POSTS, POSTS, check_row, is_integer, is_row, is_sequence


def is_lead(value, posts):
    """Whether any value is a lead of so many posts."""
    return is_integer(value) and 1 <= abs(value) < posts


def check_leads(posts, leads):
    """Raise InvalidLead for any value that is no sequence of leads of so many posts."""
    if not is_sequence(leads):
        raise InvalidLead(0)
    for at, lead in enumerate(leads):
        if not is_lead(lead, posts):
            raise InvalidLead(at)


def led_by(row, lead):
    """The reduced row to which one lead leads a row."""
    x, y = POSTS[abs(lead) - 1], POSTS[abs(lead)]
    goals = {x: x + y + turned(x), y: x} if lead > 0 else {x: y, y: turned(y) + x + y}
    for post in (x, y):
        goals[post.upper()] = turned(goals[post])
    return reduced("".join([goals.get(sign, sign) for sign in row]))


def led_row(posts, leads, row):
    """The reduced row to which a row is led."""
    check_leads(posts, leads)
    check_row(row, posts)
    led = reduced(row)
    for lead in leads:
        led = led_by(led, lead)
    return led


def images(posts, leads):
    """The rows to which the posts' own signs are led."""
    return tuple([led_row(posts, leads, post) for post in POSTS[:posts]])


def carried(posts, leads):
    """For each image the pair of the shortest arm and the post that it is, between the arm and this turned."""
    return tuple([core(image) for image in images(posts, leads)])


def spots(posts, leads):
    """Where each post has come."""
    return tuple([post for _, post in carried(posts, leads)])


def led_back(leads):
    """The leads that lead all back."""
    return tuple([-lead for lead in leads[::-1]])


def same_leads(posts, one, other):
    """Whether two leads lead each row to the same row."""
    return first_parted(posts, one, other) is None


def first_parted(posts, one, other):
    """The first post whose images by two leads differ, or None."""
    for post in POSTS[:posts]:
        if led_row(posts, one, post) != led_row(posts, other, post):
            return post
    return None


def are_images(value):
    """Whether any value is the images of some leads."""
    if not isinstance(value, tuple) or not 1 <= len(value) <= MOST_POSTS:
        return False
    if not all([is_row(row, len(value)) and is_reduced(row) for row in value]):
        return False
    # So each post stands for one of them, turned round by an arm, and a rope around all of them is not moved.
    posts = POSTS[:len(value)]
    return sorted([core(row)[1] for row in value]) == list(posts) and joined(value) == posts


def leads_for(value):
    """Some leads with these images, or None."""
    if not are_images(value):
        return None
    rows, done = list(value), []
    while rows != list(POSTS[:len(rows)]):
        lead = shortening_lead(rows)
        rows = with_lead(rows, lead)
        done.append(lead)
    # Each one was done ahead of those found earlier, and all of them together lead the wanted leads back.
    return led_back(done[::-1])


def with_lead(rows, lead):
    """The images if one lead is done ahead of all."""
    at = abs(lead)
    one, other = rows[at - 1], rows[at]
    if lead > 0:
        exchanged = [joined([one, other, turned(one)]), one]
    else:
        exchanged = [other, joined([turned(other), one, other])]
    return rows[:at - 1] + exchanged + rows[at + 1:]


def shortening_lead(rows):
    """The lead that, done ahead of all, makes images shortest together."""
    leads = [lead for at in range(1, len(rows)) for lead in (at, -at)]
    return min(leads, key=lambda lead: len("".join(with_lead(rows, lead))))


def leads_hold(value, leads):
    """Whether any value `leads` is a tuple of leads whose images any value is."""
    if not are_images(value) or not isinstance(leads, tuple):
        return False
    if not all([is_lead(lead, len(value)) for lead in leads]):
        return False
    return images(len(value), leads) == value


def left_leads(posts, leads, post):
    """The leads of the other posts, if one post is taken out ahead of all."""
    check_leads(posts, leads)
    if post not in list(POSTS[:posts]):
        raise NoPost(post)
    left, place = [], POSTS.index(post)
    for lead in leads:
        at = abs(lead)
        if place in (at - 1, at):
            place = at if place == at - 1 else at - 1
        elif place < at:
            left.append(lead - 1 if lead > 0 else lead + 1)
        else:
            left.append(lead)
    return tuple(left)


def crossings(posts, leads):
    """For each two posts how often leads above 0 exchange them, less how often those below 0 do."""
    check_leads(posts, leads)
    standing = list(POSTS[:posts])
    many = {(one, other): 0 for one in standing for other in standing if one < other}
    for lead in leads:
        at = abs(lead)
        pair = tuple(sorted(standing[at - 1:at + 1]))
        many[pair] += 1 if lead > 0 else -1
        standing[at - 1], standing[at] = standing[at], standing[at - 1]
    return tuple([(one, other, number) for (one, other), number in many.items()])


def whole_round(posts):
    """The leads by which all posts go once round together."""
    return tuple(list(range(1, posts)) * posts)


def whole_rounds(posts, leads):
    """How many whole rounds leads do, below 0 the other way round, or None."""
    rows, whole = images(posts, leads), POSTS[:posts]
    # The arm of the first image is all posts so often; the other way round it lacks the first one at its end.
    length = len(core(rows[0])[0])
    for many in (length // posts, -((length + 1) // posts)):
        around = times(whole, many)
        if rows == tuple([joined([around, post, turned(around)]) for post in whole]):
            return many
    return None
