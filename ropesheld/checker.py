"""One checker for papers of all kinds: it walks along rows, and asks nothing of what makes papers."""

from ropesheld.closed import arm_holds
from ropesheld.handles import handle_pairs_hold
from ropesheld.houses import House, led_to
from ropesheld.leads import is_lead, led_by
from ropesheld.maps import Map, led_after
from ropesheld.parting import parting_holds
from ropesheld.rows import chain_holds, is_reduced, joined, reduced, turned
from ropesheld.sheets import fall_together_holds
from ropesheld.signs import MOST_POSTS, POSTS, is_posts, is_row, is_sequence
from ropesheld.squares import square_rows_hold
from ropesheld.tying import tied_holds
from ropesheld.undoing import is_undone, missed_holds
from ropesheld.wishes import is_wish, keeps_wish


def are_rows(value):
    """Whether any value is a sequence of rows."""
    return is_sequence(value) and all([is_row(row) for row in value])


def holds_alike(one, other, value):
    """Whether any value is a chain from one row to another one."""
    return is_row(one) and is_row(other) and chain_holds(one, other, value)


def holds_unlike(one, other, value):
    """Whether any value is a pair of a house and a thing that two rows lead to unlike things."""
    return is_row(one) and is_row(other) and parting_holds(one, other, value)


def holds_closed(one, other, value):
    """Whether any value is an arm that leads the other row to the one."""
    return is_row(one) and is_row(other) and arm_holds(one, other, value)


def holds_tied(ropes, row, value):
    """Whether any value is a knot of a row."""
    return are_rows(ropes) and is_row(row) and tied_holds(MOST_POSTS, ropes, row, value)


def holds_untied(ropes, row, value):
    """Whether any value is a house that shows that a row is not tied."""
    if not are_rows(ropes) or not is_row(row) or not isinstance(value, House):
        return False
    if not all([is_row(told, value.posts) for told in [row, *ropes]]):
        return False
    return led_to(value, 0, row) != 0 and all([led_to(value, 0, rope) == 0 for rope in ropes])


def holds_wish(wish, posts, value):
    """Whether any value is a row that falls by just the lots for which a wish asks."""
    return is_posts(posts) and is_wish(wish, posts) and is_row(value, posts) and keeps_wish(value, wish, posts)


def holds_handles(row, value):
    """Whether any value is a tuple of pairs of rows whose turns make a row."""
    return is_row(row) and handle_pairs_hold(row, value)


def holds_folds(row, value):
    """Whether any value is a tuple of rows whose squares make a row."""
    return is_row(row) and square_rows_hold(row, value)


def holds_together(rows, value):
    """Whether any value is a tuple of rows between which and these turned some rows fall together."""
    return are_rows(rows) and fall_together_holds(rows, value)


def holds_missed(one, value):
    """Whether any value is a pair of a post that a map misses and a house that shows it."""
    return isinstance(one, Map) and missed_holds(one, value)


def holds_moved(one, other, value):
    """Whether any value is a pair of maps that undo one another, the first of which leads the one row to the other."""
    if not isinstance(value, tuple) or len(value) != 2:
        return False
    there, back = value
    if not isinstance(there, Map) or not isinstance(back, Map) or there.posts != back.posts:
        return False
    if not is_row(one, there.posts) or not is_row(other, there.posts):
        return False
    return there.led(one) == reduced(other) and is_undone(there, back)


def holds_leads(posts, rows, value):
    """Whether any value is a tuple of leads of so many posts whose images are some rows."""
    if not is_posts(posts) or not are_rows(rows) or len(rows) != posts or not isinstance(value, tuple):
        return False
    if not all([is_row(row, posts) and is_reduced(row) for row in rows]):
        return False
    return all([is_lead(lead, posts) for lead in value]) and are_led_to(list(rows), value)


def are_led_to(rows, leads):
    """Whether the posts' own signs are led to some reduced rows."""
    left = []
    for lead in leads:
        if left and left[-1] == -lead:
            left.pop()
        else:
            left.append(lead)
    # Led from both ends, the shorter ones first, rows stay short also where they are long in between.
    ahead, behind, begin, end = list(POSTS[:len(rows)]), rows, 0, len(left)
    while begin < end:
        if len("".join(ahead)) <= len("".join(behind)):
            ahead = [led_by(row, left[begin]) for row in ahead]
            begin += 1
        else:
            end -= 1
            behind = [led_by(row, -left[end]) for row in behind]
    return ahead == behind


KINDS = {
    "alike": holds_alike, "unlike": holds_unlike, "closed": holds_closed, "tied": holds_tied, "untied": holds_untied,
    "wish": holds_wish, "handles": holds_handles, "folds": holds_folds, "together": holds_together,
    "missed": holds_missed, "moved": holds_moved, "leads": holds_leads,
}
# All other kinds ask for two things.
SINGLE = ("handles", "folds", "together", "missed")
LEADING_ON = ("alike", "closed", "moved")


def holds(kind, question, value):
    """Whether any value is a paper of a kind for a question."""
    if not isinstance(kind, str) or kind not in KINDS or not isinstance(question, tuple):
        return False
    if len(question) != (1 if kind in SINGLE else 2):
        return False
    is_paper = KINDS[kind]
    return is_paper(*question, value)


def is_good(sheet, kinds):
    """Whether any value is a sheet of one of some kinds that holds."""
    return isinstance(sheet, tuple) and len(sheet) == 3 and sheet[0] in kinds and holds(*sheet)


def wrong_sheets(sheets):
    """The indexes of the sheets that do not hold, ascending."""
    return tuple([at for at, sheet in enumerate(sheets) if not is_good(sheet, list(KINDS))])


def sheet_back(sheet):
    """The sheet for the question the other way round, or None."""
    if not is_good(sheet, LEADING_ON):
        return None
    kind, (one, other), value = sheet
    if kind == "closed":
        return kind, (other, one), turned(value)
    return kind, (other, one), value[::-1]


def sheet_on(sheet, more):
    """The sheet from the first row of the one sheet to the last one of another one, or None."""
    if not is_good(sheet, LEADING_ON) or not is_good(more, sheet[:1]):
        return None
    kind, (one, middle), value = sheet
    _, (meeting, last), further = more
    if meeting != middle:
        return None
    if kind == "alike":
        return kind, (one, last), value + further[1:]
    if kind == "closed":
        return kind, (one, last), joined([value, further])
    if value[0].posts != further[0].posts:
        return None
    return kind, (one, last), (led_after(further[0], value[0]), led_after(value[1], further[1]))


def knot_in(sheet, sheets):
    """The sheet for a row that is tied of ropes which are tied of further ropes, or None."""
    if not is_good(sheet, ("tied",)) or len(sheets) == 0:
        return None
    if not all([is_good(part, ("tied",)) for part in sheets]):
        return None
    _, (ropes, row), knot = sheet
    if [part[1][1] for part in sheets] != list(ropes):
        return None
    told = [tuple(part[1][0]) for part in sheets]
    if any([further != told[0] for further in told]):
        return None
    found = []
    for number, back in knot:
        own = sheets[number][2]
        found += [(at, not way) for at, way in own[::-1]] if back else own
    return "tied", (told[0], row), tuple(found)
