"""Trains: maps that are done again and again ([60] to [63])."""

import unittest
from itertools import product

from ropesheld.errors import InvalidRow, NoTrain
from ropesheld.maps import Map
from ropesheld.trains import is_smooth, is_train, train_holds, train_lot, trouble, turn_led, turns_in
from tests.support import GROW, NO_STRINGS, SIGNS, all_rows, draws, drawn_row, is_plain, reduced_rows, taken_out, turned


def written(one, row):
    """The row that is written if the row of its post stands for each sign."""
    return "".join(one.rows["abcdefgh".index(sign.lower())] if sign.islower() else
                   turned(one.rows["abcdefgh".index(sign.lower())]) for sign in row)


def told_turns(row):
    """The turns of a reduced row."""
    return {tuple(sorted((one.swapcase(), other))) for one, other in zip(row, row[1:])}


def told_led(one, turn):
    """The turn to which a turn is led."""
    return tuple(sorted(written(one, sign)[0] for sign in turn))


def told_trouble(one, most):
    """The least pair (many, post) up to some times with a written growth that is not reduced, or None."""
    grown = {post: post for post in "abcdefgh"[:one.posts]}
    for many in range(most + 1):
        for post, row in grown.items():
            if not is_plain(row):
                return many, post
        grown = {post: written(one, row) for post, row in grown.items()}
    return None


def told_lot(one):
    """All turns that come of those taken by the rows of a map."""
    found = set().union(*(told_turns(row) for row in one.rows))
    while True:
        more = found | {told_led(one, turn) for turn in found}
        if more == found:
            return found
        found = more


def all_turns(posts):
    """All turns of so many posts."""
    signs = sorted(SIGNS[:2 * posts])
    return [(one, other) for at, one in enumerate(signs) for other in signs[at:]]


SHORT = [Map(2, rows) for rows in product([row for row in reduced_rows(2, 2) if row], repeat=2)]
some = draws(611)
LONG = [Map(posts, rows) for posts in (1, 2, 2, 3, 3, 4, 8) for _ in range(20)
        for rows in [[taken_out(drawn_row(some, posts, 1 + some(4))) or "a" for _ in range(posts)]]]
# One that is no train for which it takes long to see it: turns go through many ones before they die.
LATE = [Map(2, ["ab", "A"]), Map(3, ["ab", "c", "A"]), Map(4, ["ab", "c", "d", "A"]),
        Map(3, ["b", "c", "aB"]), Map(4, ["b", "c", "d", "aB"])]
EMPTY = [Map(1, [""]), Map(2, ["a", ""]), Map(2, ["", "ab"]), Map(3, ["a", "aA", "c"])]


class TestTurns(unittest.TestCase):
    def test_turns_in(self):
        for row in all_rows(2, 4) + ["abcABC", "hGhg", "ab" * 150, "aab?"[:3], "", "a", "aA", "baAc"]:
            told = turns_in(row)
            self.assertEqual(told, tuple(sorted(told_turns(taken_out(row)))))
            self.assertFalse(any(one == other for one, other in told))
        self.assertEqual((turns_in(""), turns_in("a"), turns_in("aa"), turns_in("hG")),
                         ((), (), (("A", "a"),), (("G", "H"),)))

    def test_turn_led(self):
        for one in SHORT[::5] + LONG:
            for turn in all_turns(one.posts):
                self.assertEqual(turn_led(one, turn), told_led(one, turn))
        self.assertEqual(turn_led(Map(2, ["ab", "A"]), ("A", "b")), ("A", "B"))
        self.assertEqual(turn_led(Map(2, ["ab", "A"]), ("a", "a")), ("a", "a"))

    def test_smooth(self):
        for one in SHORT[::3] + LONG:
            for turn in all_turns(one.posts):
                led = turn
                for _ in range(140):
                    led = told_led(one, led)
                row = turn[0].swapcase() + turn[1]
                # Who is dead once stays so.
                if turn[0] != turn[1]:
                    self.assertEqual(is_smooth(one, row), led[0] != led[1])
        for one in SHORT[::7]:
            for row in all_rows(2, 3)[::4]:
                self.assertEqual(is_smooth(one, row), all(is_smooth(one, x.swapcase() + y) for x, y in turns_in(row)))
        self.assertTrue(is_smooth(GROW, "") and is_smooth(GROW, "aAbB") and is_smooth(Map(2, ["ab", "A"]), "b"))


class TestTrains(unittest.TestCase):
    def test_exactly_who_grows_without_signs_going(self):
        for one in SHORT:
            # There are ten turns: so turns that die are dead soon.
            told = told_trouble(one, 9)
            self.assertEqual(trouble(one), told, one.rows)
            self.assertEqual(is_train(one), told is None)
            self.assertEqual(train_lot(one), tuple(sorted(told_lot(one))) if told is None else None)
        self.assertEqual({True, False}, {is_train(one) for one in SHORT})

    def test_longer_maps(self):
        for one in LONG + LATE:
            lot = told_lot(one)
            is_dead = any(x == y for x, y in lot)
            self.assertEqual((is_train(one), trouble(one) is None), (not is_dead, not is_dead))
            self.assertEqual(train_lot(one), None if is_dead else tuple(sorted(lot)))
            told = told_trouble(one, 5)
            if told is not None:
                self.assertEqual(trouble(one), told)
            elif is_dead:
                self.assertGreater(trouble(one)[0], 5)

    def test_trouble_that_comes_late(self):
        self.assertEqual([trouble(one) for one in LATE[:3]], [told_trouble(one, 12) for one in LATE[:3]])
        self.assertEqual(trouble(Map(2, ["ab", "A"])), (4, "a"))
        for one in LATE:
            if trouble(one) is not None:
                many, post = trouble(one)
                row = post
                for _ in range(many - 1):
                    row = written(one, row)
                self.assertTrue(is_plain(row))
                self.assertFalse(is_plain(written(one, row)))

    def test_posts_that_are_led_to_one_another(self):
        for one in (Map(1, ["A"]), Map(8, list("bcdefghA")), Map(8, list("hgfedcba")), Map(4, list("bcda"))):
            self.assertEqual((is_train(one), train_lot(one), trouble(one)), (True, (), None))
        self.assertEqual(train_lot(Map(1, ["aa"])), (("A", "a"),))
        self.assertEqual(train_lot(Map(2, ["abaBB", "b"])), None)

    def test_train_holds(self):
        for one in SHORT[::11] + LONG[::9] + [GROW]:
            lot = tuple(sorted(told_lot(one)))
            is_dead = any(x == y for x, y in lot)
            self.assertEqual(train_holds(one, lot), not is_dead)
            self.assertEqual(train_holds(one, lot[::-1] + lot), not is_dead)
            self.assertFalse(train_holds(one, list(lot)))
            if not is_dead:
                for at, turn in enumerate(lot):
                    left = lot[:at] + lot[at + 1:]
                    needed = turn in {turn for row in one.rows for turn in told_turns(row)}
                    needed = needed or turn in {told_led(one, other) for other in left}
                    self.assertEqual(train_holds(one, left), not needed)
                    self.assertFalse(train_holds(one, left + (list(turn),)))
                    self.assertFalse(train_holds(one, lot + (turn[::-1],)))
                for turn in all_turns(one.posts):
                    closed = turn[0] != turn[1] and told_led(one, turn) in (*lot, turn)
                    self.assertEqual(train_holds(one, lot + (turn,)), closed)
        lot = train_lot(GROW)
        for value in [*NO_STRINGS, "", "Aa", lot + (None,), lot + (("a", "i"),), lot + (("C", "a"),), lot + ("Ab",),
                      lot + (("A", "b", "b"),), lot + (("A",),), lot + (("A", 1),), lot + (("", "a"),),
                      lot + (("Aa", "b"),), lot + (("a", "a"),), (lot,)]:
            self.assertFalse(train_holds(GROW, value), value)
        self.assertTrue(train_holds(Map(2, ["b", "A"]), ()))
        self.assertFalse(train_holds(GROW, ()))

    def test_maps_with_empty_rows(self):
        for one in EMPTY:
            self.assertIs(is_train(one), False)
            for called in (lambda: turn_led(one, ("A", "a")), lambda: is_smooth(one, "a"), lambda: is_smooth(one, ""),
                           lambda: train_lot(one), lambda: train_holds(one, ()), lambda: train_holds(one, None),
                           lambda: trouble(one)):
                with self.assertRaises(NoTrain) as caught:
                    called()
                self.assertEqual(caught.exception.word, "map")
            for value, at in ((None, 0), ("a?", 1), ("aAd", 2 if one.posts < 4 else 3)):
                with self.assertRaises(InvalidRow) as caught:
                    is_smooth(one, value)
                self.assertEqual(caught.exception.at, at)


if __name__ == "__main__":
    unittest.main()
