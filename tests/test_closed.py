"""Closed ropes ([29] to [33])."""

import unittest
from itertools import product
from math import gcd

from ropesheld.closed import (
    agree, all_hold, arm_for_all, arm_holds, commute, least_arm, least_turn, nth_part, root, same_closed, shared_power,
    shared_root, some_arm, turns)
from ropesheld.rows import core, joined, reduced, times
from tests.support import NO_STRINGS, all_rows, draws, drawn_row, order, reduced_rows, taken_out, turned

ROWS = all_rows(2, 3) + reduced_rows(2, 4)[-60:] + ["baabB", "aabaab", "abaB", "baabAB", "bbabaB", "aabaabaa",
    "abABabAB"]


def led(arm, row):
    """The reduced row to which an arm leads a row."""
    return taken_out(arm + row + turned(arm))


def told_core(row):
    """The core of a row, told by taking its ends away one by one."""
    row = taken_out(row)
    while row and row[0] == row[-1].swapcase():
        row = row[1:-1]
    return row


def told_turns(row):
    """All turns of the core of a row, in order."""
    word = told_core(row)
    return tuple(sorted({word[at:] + word[:at] for at in range(len(word) + 1)}, key=order))


class TestTurns(unittest.TestCase):
    def test_turns(self):
        for row in ROWS + [drawn_row(draws(51), 8, 60)]:
            self.assertEqual(turns(row), told_turns(row))
            self.assertEqual(least_turn(row), told_turns(row)[0])
        self.assertEqual((turns(""), turns("aA"), least_turn("")), (("",), ("",), ""))
        self.assertEqual(turns("abab"), ("abab", "baba"))
        self.assertEqual(turns("bA"), ("Ab", "bA"))

    def test_long_rows(self):
        row = drawn_row(draws(52), 3, 300)
        self.assertEqual(turns(row), told_turns(row))
        self.assertEqual(turns(times("baa", 1000)), ("aab" * 1000, "aba" * 1000, "baa" * 1000))
        self.assertEqual(least_turn(times("baa", -1000)), "AAB" * 1000)
        self.assertEqual(len(least_turn(times(row, 1000))), 1000 * len(told_core(row)))

    def test_same_closed(self):
        for one in ROWS:
            for other in ROWS[::2]:
                self.assertEqual(same_closed(one, other), told_core(one) in told_turns(other))
        arms = all_rows(2, 3)
        for one in reduced_rows(2, 2):
            for other in reduced_rows(2, 2):
                self.assertEqual(same_closed(one, other), any(led(arm, other) == one for arm in arms))

    def test_none_is_closed_alike_to_itself_turned(self):
        for row in ROWS:
            self.assertEqual(same_closed(row, turned(row)), taken_out(row) == "")


class TestArms(unittest.TestCase):
    def test_some_arm(self):
        for one in ROWS:
            for other in ROWS:
                arm = some_arm(one, other)
                if told_core(one) not in told_turns(other):
                    self.assertIsNone(arm)
                else:
                    self.assertEqual(led(arm, other), taken_out(one))
                    self.assertEqual(arm, taken_out(arm))
                    self.assertTrue(arm_holds(one, other, arm))

    def test_arm_holds_for_all_arms(self):
        for one, other in [("baa", "aab"), ("", "aA"), ("abA", "b"), ("aabb", "aabb"), ("a", "b"), ("ab", "BA"),
                ("aA", "b")]:
            for arm in all_rows(2, 4):
                self.assertEqual(arm_holds(one, other, arm), led(arm, other) == taken_out(one))
        self.assertTrue(arm_holds("baa", "aab", "hHb"))
        for value in list(NO_STRINGS) + ["i", "b?", "b ", ("b",), ["b"]]:
            self.assertFalse(arm_holds("baa", "aab", value), value)
            self.assertFalse(arm_holds("", "", value), value)

    def test_least_arm(self):
        ones = all_rows(2, 2) + reduced_rows(2, 3)
        for other in reduced_rows(2, 3):
            firsts = {}
            for arm in reduced_rows(2, 5):
                firsts.setdefault(led(arm, other), arm)
            for one in ones:
                self.assertEqual(least_arm(one, other), firsts.get(taken_out(one)), (one, other))

    def test_least_arm_by_powers(self):
        # All arms are one of them with a power of the root ahead.
        drawn = draws(53)
        for _ in range(300):
            word = told_core(drawn_row(drawn, 2, 1 + drawn(7))) or "a"
            one = led(drawn_row(drawn, 2, drawn(7)), word * (1 + drawn(3)))
            other = led(drawn_row(drawn, 2, drawn(7)), one)
            some, (whole, _) = some_arm(one, other), root(one)
            arms = [taken_out((whole if k > 0 else turned(whole)) * abs(k) + some) for k in range(-30, 31)]
            self.assertEqual(least_arm(one, other), min(arms, key=order))

    def test_edges(self):
        self.assertEqual((least_arm("", ""), some_arm("aA", ""), least_arm("", "aA")), ("", "", ""))
        self.assertEqual((least_arm("", "a"), some_arm("a", ""), least_arm("ab", "AB")), (None, None, None))
        for row in ROWS:
            self.assertEqual(least_arm(row, row), "")

    def test_long_rows(self):
        drawn = draws(54)
        arm, row = drawn_row(drawn, 2, 50), drawn_row(drawn, 2, 150)
        one, other = arm + row + turned(arm), row[70:] + row[:70]
        self.assertEqual(led(least_arm(one, other), other), taken_out(one))
        self.assertEqual(least_arm("a" * 140 + "b" + "A" * 140, "b"), "a" * 140)
        self.assertEqual(least_arm("b", "a" * 140 + "b" + "A" * 140), "A" * 140)
        self.assertEqual(least_arm(times(row, 1000), times(other, 1000)), least_arm(row, other))


class TestRoots(unittest.TestCase):
    def test_root(self):
        for row in ROWS:
            whole, many = root(row)
            if taken_out(row) == "":
                self.assertEqual((whole, many), ("", 0))
            else:
                self.assertEqual(taken_out(whole * many), taken_out(row))
                self.assertEqual(whole, taken_out(whole))
                powers = {taken_out(one * k) for one in reduced_rows(2, 4) for k in (2, 3, 4)}
                self.assertNotIn(whole, powers)
        self.assertEqual(root("abababA" + "a"), ("ab", 3))
        self.assertEqual((root("baaB"), root("babaB"), root("H")), (("baB", 2), ("babaB", 1), ("H", 1)))
        self.assertEqual(root(times("aabA", 1000)), ("aabA", 1000))
        self.assertEqual(root(times("aabA", -12)), ("aBAA", 12))

    def test_nth_part(self):
        rows = reduced_rows(2, 3)
        powers = {many: {taken_out(row * many): row for row in rows} for many in (1, 2, 3, 4)}
        for row in ROWS:
            for many in (1, 2, 3, 4):
                part = nth_part(row, many)
                if part is None:
                    self.assertNotIn(taken_out(row), powers[many])
                else:
                    self.assertEqual(taken_out(part * many), taken_out(row))
                    self.assertEqual(part, taken_out(part))
        self.assertEqual((nth_part("", 5), nth_part("aA", 2), nth_part("a", 2), nth_part("BAABAA", 2)),
            ("", "", None, "BAA"))
        self.assertEqual(nth_part(times("aabA", 1000), 250), times("aabA", 4))

    def test_commute(self):
        for one in ROWS:
            for other in ROWS[::2]:
                same = taken_out(one + other) == taken_out(other + one)
                self.assertEqual(commute(one, other), same)
                told = shared_root(one, other)
                if same:
                    self.assert_shared_root(one, other, told)
                else:
                    self.assertIsNone(told)

    def assert_shared_root(self, one, other, told):
        whole, m, n = told
        for row, many in ((one, m), (other, n)):
            self.assertEqual(taken_out((whole if many > 0 else turned(whole)) * abs(many)), taken_out(row))
        if whole == "":
            self.assertEqual((taken_out(one), taken_out(other), m, n), ("", "", 0, 0))
        else:
            self.assertEqual(root(whole), (whole, 1))
            self.assertTrue(m > 0 or (m == 0 and n > 0))

    def test_shared_root(self):
        self.assertEqual(shared_root("", "BAABAA"), ("BAA", 0, 2))
        self.assertEqual(shared_root("aab", "aA"), ("aab", 1, 0))
        self.assertEqual(shared_root("", "aA"), ("", 0, 0))
        self.assertEqual(shared_root(times("abA", 6), times("abA", -1000)), ("abA", 6, -1000))
        self.assertEqual(shared_root("A", "aa"), ("A", 1, -2))

    def test_shared_power(self):
        words = ["", "a", "B", "ab", "aab", "aB"]
        for one, other in product(words, repeat=2):
            for m, n in product((1, 2, 3, 4, 6, -2, -3), repeat=2):
                first, second = led("ab", times(one, m)), led("Ba", times(other, n))
                told = [(p, q) for p in range(1, 7) for q in (*range(1, 7), *range(-6, 0))
                        if same_closed(times(first, p), times(second, q))]
                if one == other == "":
                    self.assertEqual(shared_power(first, second), (1, 1))
                elif one == other:
                    self.assertEqual(shared_power(first, second), min(told))
                    self.assertEqual(len([pair for pair in told if pair[0] == min(told)[0]]), 1)
                    self.assertEqual(shared_power(first, second)[0], abs(n) // gcd(m, n))
                else:
                    self.assertEqual((told, shared_power(first, second)), ([], None))
        self.assertEqual(shared_power(times("ab", 1000), times("BA", 999)), (999, -1000))


class TestArmForAll(unittest.TestCase):
    def test_against_all_arms(self):
        rows, arms = ["", "a", "b", "ab", "aa", "abA", "Ab", "bab", "aAbB"], reduced_rows(2, 4)
        for others in product(rows[:7], repeat=2):
            together = {tuple(led(arm, row) for row in others) for arm in arms}
            for ones in product(rows, repeat=2):
                arm = arm_for_all(ones, others)
                self.assertEqual(arm is None, tuple(map(taken_out, ones)) not in together, (ones, others, arm))
                if arm is not None:
                    self.assertTrue(all(led(arm, x) == taken_out(y) for x, y in zip(others, ones)))
                    self.assertEqual(arm, taken_out(arm))

    def test_led_together(self):
        drawn = draws(55)
        for _ in range(300):
            word = drawn_row(drawn, 2, 1 + drawn(4))
            others = [[times(word, drawn(7) - 3), drawn_row(drawn, 2, drawn(9))][drawn(2)] for _ in range(1 + drawn(4))]
            arm = taken_out(drawn_row(drawn, 2, drawn(12)) + word * drawn(9))
            ones = [led(arm, row) for row in others]
            found = arm_for_all(ones, others)
            self.assertTrue(all_hold(ones, others, arm))
            self.assertEqual([led(found, row) for row in others], ones)
            self.assertTrue(all_hold(ones, others, found))

    def test_no_arm(self):
        for ones, others in [(["b", "aaa"], ["b", "baB"]), (["aaa", "b"], ["aaa", "bbb"]), (["a", "b"], ["b", "a"]),
                (["a", ""], ["a", "b"]),
                             (["a", "b", "ab"], ["a", "b", "ba"]), (["", "a"], ["b", "a"]), (["a", "aa"], ["a", "bb"]),
                             (["aa", "baB"], ["aa", "abABA"])]:
            arms = reduced_rows(2, 5)
            self.assertFalse(any(all(led(arm, x) == taken_out(y) for x, y in zip(others, ones)) for arm in arms))
            self.assertIsNone(arm_for_all(ones, others))

    def test_powers_far_out(self):
        others = ["ab", "aab", "b" * 40 + "a"]
        arm = times("ab", 140)
        ones = [led(arm, row) for row in others]
        self.assertEqual(arm_for_all(ones, others), arm)
        self.assertEqual(arm_for_all(others, ones), turned(arm))
        self.assertIsNone(arm_for_all(ones, others[:2] + [led("ab", others[2])]))

    def test_edges(self):
        self.assertEqual(joined([arm_for_all([], [])]), arm_for_all([], []))
        self.assertTrue(all_hold([], [], arm_for_all([], [])))
        self.assertTrue(all_hold([], [], "abc"))
        self.assertEqual(reduced(arm_for_all(["", "aA"], ["bB", ""])), arm_for_all(["", "aA"], ["bB", ""]))
        for value in list(NO_STRINGS) + ["i", "a?"]:
            self.assertFalse(all_hold([], [], value))
            self.assertFalse(all_hold(["a"], ["a"], value))
        self.assertTrue(all_hold(["baa", "b"], ["aab", "b"], "bbB"))
        self.assertFalse(all_hold(["baa", "a"], ["aab", "b"], "b"))


class TestAgree(unittest.TestCase):
    def test_endless_rows(self):
        for one in ROWS:
            for other in ROWS:
                first, second = told_core(one) * 40, told_core(other) * 40
                same = [x == y for x, y in zip(first, second)]
                self.assertEqual(agree(one, other), same.index(False) if False in same else None)

    def test_edges(self):
        self.assertEqual((agree("", ""), agree("", "a"), agree("aA", "a"), agree("a", "bB")), (None, None, None, None))
        self.assertEqual((agree("a", "b"), agree("a", "A"), agree("baB", "aab"), agree("aaaab", "aaaa")), (0, 0, 2, 4))
        self.assertEqual(agree("abaab", "aba"), 6)
        self.assertEqual(agree("a" * 299 + "b", "a" * 300), 299)
        self.assertEqual(core("baB"), ("b", "a"))
        self.assertIsNone(agree(times("ab", 1000), times("ab", 7)))


if __name__ == "__main__":
    unittest.main()
