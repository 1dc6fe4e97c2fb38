"""Pulled posts and wishes ([23] to [28])."""

import unittest
from itertools import permutations

from ropesheld.errors import InvalidRow, InvalidWish
from ropesheld.pulled import falling, falls, falls_at, holding, needed, spared, sure_for
from ropesheld.rows import without
from ropesheld.wishes import any_of, asks, bars, both, crossed, either, keeps_wish, rope_for, together, wish_of
from tests.support import (
    NO_STRINGS, NO_WISHES, all_lots, all_rows, all_wishes, draws, drawn_row, least, reduced_rows, taken_out)

SOME = all_rows(1, 3) + all_rows(2, 3) + reduced_rows(2, 4) + reduced_rows(3, 3) + ["abABcbaBAC", "abcABC", "aabB",
    "acbBA"]


def told_falls(row, lot):
    """Whether a row falls by a lot, by the words of the document."""
    return taken_out("".join(sign for sign in row if sign.lower() not in lot)) == ""


class TestPulled(unittest.TestCase):
    def test_falls(self):
        for row in SOME:
            for lot in all_lots(3):
                self.assertEqual(falls(row, lot), told_falls(row, lot))
        self.assertTrue(falls("", ""))
        self.assertTrue(falls("hGHg", "g"))
        self.assertFalse(falls("hGHg", "abcdef"))
        self.assertTrue(falls("aBcDeFgH", "abcdefgh"))

    def test_falling_and_holding(self):
        for row in SOME:
            for posts in (3, 4):
                fallen = [lot for lot in all_lots(posts) if told_falls(row, lot)]
                held = [lot for lot in all_lots(posts) if lot not in fallen]
                greatest = [lot for lot in held if not any(set(lot) < set(more) for more in held)]
                self.assertEqual(falling(row, posts), least(fallen))
                self.assertEqual(holding(row, posts), tuple(sorted(greatest, key=lambda lot: (-len(lot), lot))))

    def test_greatest_lots_of_unlike_lengths(self):
        for wish in all_wishes(4):
            asked = [lot for lot in all_lots(4) if any(set(less) <= set(lot) for less in wish)]
            held = [lot for lot in all_lots(4) if lot not in asked]
            greatest = [lot for lot in held if not any(set(lot) < set(more) for more in held)]
            told = tuple(sorted(greatest, key=lambda lot: (-len(lot), lot)))
            self.assertEqual(holding(rope_for(wish, 4), 4), told)
        self.assertEqual(holding("abcBC", 3), ("bc", "a"))

    def test_edges(self):
        for row in ("", "aA", "abBA"):
            self.assertEqual((falling(row, 2), holding(row, 2), needed(row, 2)), (("",), (), ""))
            self.assertEqual((spared(row, 2), falls_at(row, "ba", 2), sure_for(row, 2)), ("ab", 0, -1))
        self.assertEqual((falling("a", 1), holding("a", 1), needed("a", 1), spared("a", 1)), (("a",), ("",), "a", ""))
        self.assertEqual((falls_at("A", "a", 1), sure_for("A", 1)), (1, 0))
        row = "abcdefgh"
        self.assertEqual((falling(row, 8), needed(row, 8), spared(row, 8), sure_for(row, 8)), ((row,), row, "", 7))
        self.assertEqual(holding(row, 8), tuple(lot for lot in all_lots(8) if len(lot) == 7))
        self.assertEqual(falls_at(row, "hgfedcba", 8), 8)
        row = drawn_row(draws(41), 8, 300)
        self.assertEqual(falling(row, 8), least([lot for lot in all_lots(8) if told_falls(row, lot)]))

    def test_needed_and_spared(self):
        for row in SOME:
            lots = falling(row, 4)
            self.assertEqual(needed(row, 4), "".join(post for post in "abcd" if all(post in lot for lot in lots)))
            self.assertEqual(spared(row, 4), "".join(post for post in "abcd" if not any(post in lot for lot in lots)))

    def test_falls_at(self):
        for row in SOME:
            for order in permutations("abc"):
                many = min(many for many in range(4) if told_falls(row, order[:many]))
                self.assertEqual(falls_at(row, "".join(order), 3), many)

    def test_sure_for(self):
        for row in SOME:
            sure = [many for many in range(4) if not any(told_falls(row, lot) for lot in all_lots(3)
                if len(lot) == many)]
            self.assertEqual(sure_for(row, 3), max(sure, default=-1))

    def test_greater_lots_let_fall_too(self):
        for row in SOME:
            for lot in all_lots(3):
                if falls(row, lot):
                    self.assertTrue(all(falls(row, more) for more in all_lots(3) if set(lot) < set(more)))


class TestWishes(unittest.TestCase):
    def asked(self, wish, posts):
        return [lot for lot in all_lots(posts) if any(set(less) <= set(lot) for less in wish)]

    def test_wish_of(self):
        lots = all_lots(3)
        for one in lots:
            for other in lots:
                for more in lots:
                    self.assertEqual(wish_of([one, other, more], 3), least([one, other, more]))
                    self.assertEqual(wish_of((one, other, more), 5), least([one, other, more]))
        self.assertEqual(wish_of(["b", "a", "b"], 2), ("a", "b"))
        self.assertEqual(wish_of([""], 1), ("",))
        for wish in all_wishes(4):
            self.assertEqual(wish_of(wish, 4), wish)
            self.assertEqual(wish_of(list(reversed(wish)) + [wish[0]], 4), wish)

    def test_asks(self):
        for wish in all_wishes(3):
            self.assertEqual([lot for lot in all_lots(4) if asks(wish, lot)], self.asked(wish, 4))
        self.assertTrue(asks(("",), ""))
        self.assertFalse(asks(("h",), "abcdefg"))

    def test_either_and_both(self):
        for one in all_wishes(3):
            for other in all_wishes(3):
                ones, others = self.asked(one, 3), self.asked(other, 3)
                self.assertEqual(either(one, other, 3), least(set(ones) | set(others)))
                self.assertEqual(both(one, other, 3), least(set(ones) & set(others)))
        self.assertEqual((either(("",), ("a",), 1), both(("",), ("a",), 1)), (("",), ("a",)))

    def test_any_of(self):
        for posts in range(1, 9):
            for many in range(posts + 1):
                self.assertEqual(any_of(posts, many), tuple(lot for lot in all_lots(posts) if len(lot) == many))
        self.assertEqual(any_of(2, 0), ("",))

    def test_bars(self):
        for wish in all_wishes(4):
            if wish != ("",):
                rests = [lot for lot in all_lots(4) if "".join(x for x in "abcd"
                    if x not in lot) not in self.asked(wish, 4)]
                self.assertEqual(bars(wish, 4), least(rests))
                self.assertEqual(bars(bars(wish, 4), 4), wish)
        self.assertEqual(bars(("a",), 1), ("a",))
        for posts in (1, 2, 8):
            with self.assertRaises(InvalidWish) as caught:
                bars(("",), posts)
            self.assertEqual(caught.exception.at, 0)

    def test_wishes_of_the_board_alone(self):
        for wish in NO_WISHES:
            for call in (lambda: either(wish, ("a",), 2), lambda: both(("a",), wish, 2), lambda: bars(wish, 2),
                         lambda: rope_for(wish, 2), lambda: keeps_wish("a", wish, 2), lambda: either(wish, None, 2)):
                with self.assertRaises(InvalidWish) as caught:
                    call()
                self.assertEqual(caught.exception.at, 0)
        self.assertEqual(either(("c",), ("ab",), 3), ("c", "ab"))

    def test_wrong_rows_come_ahead_of_wrong_wishes(self):
        for row, at in [(None, 0), ("c", 0), ("ab?", 2)]:
            with self.assertRaises(InvalidRow) as caught:
                keeps_wish(row, None, 2)
            self.assertEqual(caught.exception.at, at)
        for value in NO_STRINGS:
            with self.assertRaises(InvalidRow):
                together("a", value, 2)


class TestRopes(unittest.TestCase):
    def assert_kept(self, row, wish, posts):
        fallen = [lot for lot in all_lots(posts) if told_falls(row, lot)]
        self.assertEqual(least(fallen), wish, (row, wish))
        self.assertTrue(keeps_wish(row, wish, posts))

    def test_keeps_wish(self):
        for row in SOME:
            fallen = least([lot for lot in all_lots(3) if told_falls(row, lot)])
            for wish in all_wishes(3):
                self.assertEqual(keeps_wish(row, wish, 3), wish == fallen)
        self.assertTrue(keeps_wish("aBcDeFgH", any_of(8, 8), 8))
        self.assertFalse(keeps_wish("aBcDeFgH", any_of(8, 4), 8))

    def test_rope_for_each_wish(self):
        for posts in (1, 2, 3, 4):
            for wish in all_wishes(posts):
                self.assert_kept(rope_for(wish, posts), wish, posts)

    def test_rope_for_wishes_of_five_posts(self):
        for wish in all_wishes(5)[::50] + [any_of(5, many) for many in range(6)]:
            self.assert_kept(rope_for(wish, 5), wish, 5)
        self.assert_kept(rope_for(any_of(6, 3), 6), any_of(6, 3), 6)

    def test_posts_that_no_lot_has(self):
        for posts in (2, 4, 8):
            self.assert_kept(rope_for(("a", "b"), posts), ("a", "b"), posts)
        self.assert_kept(rope_for(("ac", "bc"), 4), ("ac", "bc"), 4)

    def test_no_single_post_is_a_good_arm(self):
        for wish in (("ad", "ae", "bcd"), ("ad", "ae", "bcd", "bce"), ("ab", "ac", "bc", "ade", "bde", "cde")):
            self.assert_kept(rope_for(wish, 5), wish, 5)
        row = crossed("a", "a", ["b", "c"], 3)
        self.assertEqual([told_falls(row, lot) for lot in ("b", "c", "a", "bc")], [False, False, True, True])

    def test_together(self):
        rows = ["", "aA", "a", "b", "ab", "ba", "abAB", "baBA", "aab", "AA", "acAC", "abcABC", "bcBC", "cC",
            "abABcbaBAC"]
        for one in rows:
            for other in rows:
                row = together(one, other, 3)
                for lot in all_lots(3):
                    self.assertEqual(told_falls(row, lot), told_falls(one, lot) and told_falls(other, lot),
                        (one, other, row))

    def test_together_of_powers(self):
        # Here the one and some powers of the other one fall too early.
        for one, other in (("AAA", "a"), ("A", "a"), ("aaaa", "AA"), ("ABABAB", "ab"), ("AbbCCC", "acb"),
                ("AbAb", "aB")):
            row = together(one, other, 3)
            for lot in all_lots(3):
                self.assertEqual(told_falls(row, lot), told_falls(one, lot) and told_falls(other, lot),
                    (one, other, row))

    def test_together_of_long_rows(self):
        drawn = draws(42)
        one, other = drawn_row(drawn, 5, 300), rope_for(any_of(5, 2), 5)
        row = together(one, other, 5)
        for lot in all_lots(5):
            self.assertEqual(falls(row, lot), falls(one, lot) and falls(other, lot))
        self.assertEqual(without(row, "abcde"), "")


if __name__ == "__main__":
    unittest.main()
