"""Fall counts: how many reduced rows of a length fall by a lot of posts."""

from ropesheld.counts import number_among, numbered_row
from ropesheld.rows import reduced, without
from ropesheld.signs import check_row

AWAY = "away"
NEARER = "nearer"
PULLED = "pulled"
BEGIN = "begin"


class Falls:
    """How many rows fall by a lot, told for beginnings of rows.

    A row goes on a tree, on which the pulled posts stay where they are. It is told how far from home it has come, and
    how its last sign went.
    """

    def __init__(self, posts, lot, length):
        self.lot = lot
        self.stays = 2 * len(lot)
        self.ways = 2 * posts - self.stays
        self.home = [{(0, how): 1 for how in (AWAY, NEARER, PULLED, BEGIN)}]
        for left in range(1, length + 1):
            self.home.append({(far, how): self.added(far, how, self.home[left - 1])
                              for far in range(left + 1) for how in (AWAY, NEARER, PULLED, BEGIN)})

    def added(self, far, how, less):
        """How many rows come home from so far, if it is told how many do with one sign less."""
        nearer = 1 if far > 0 and how != AWAY else 0
        # Neither the way home leads away, nor, behind a sign that came nearer, the way on which it came.
        away = self.ways - (1 if far > 0 else 0) - (1 if how == NEARER else 0)
        stays = self.stays - (1 if how == PULLED else 0)
        found = away * less.get((far + 1, AWAY), 0) + stays * less.get((far, PULLED), 0)
        return found + nearer * less.get((far - 1, NEARER), 0)

    def behind(self, row, left):
        """How many reduced rows of so many signs more begin with a reduced row and fall."""
        far = self.far_of(row)
        return self.home[left].get((far, self.how_last(row, far)), 0)

    def far_of(self, row):
        """How far from home a row has come."""
        return len(reduced(without(row, self.lot)))

    def how_last(self, row, far):
        """How the last sign of a row went that has come so far."""
        if row == "":
            return BEGIN
        if row[-1].lower() in self.lot:
            return PULLED
        return AWAY if self.far_of(row[:-1]) < far else NEARER


def many_falling(posts, lot, length):
    """How many reduced rows of a length fall by a lot."""
    return Falls(posts, lot, length).behind("", length)


def falling_at(posts, lot, length, number):
    """The reduced row of a length that falls by a lot and has a number among these, or None."""
    some = Falls(posts, lot, length)
    return numbered_row(posts, length, number, lambda row, left: some.behind(row, left))


def falling_number(posts, lot, row):
    """The number of a reduced row that falls by a lot among those of its length."""
    check_row(row, posts)
    some = Falls(posts, lot, len(row))
    return number_among(posts, row, lambda ahead, left: some.behind(ahead, left))
