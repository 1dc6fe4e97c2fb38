"""Rows: reducing, joining, chains, cores, windings and what is left without posts ([6] to [9])."""

import unittest

from ropesheld.rows import (
    alike, chain, chain_holds, core, is_reduced, joined, reduced, times, turned, windings, without)
from tests import support
from tests.support import NO_STRINGS, all_lots, all_rows, draws, drawn_row, is_plain, reduced_rows, taken_out

SMALL = all_rows(2, 4)


def moves(row, posts):
    """All rows to which one move leads a row."""
    signs = support.SIGNS[:2 * posts]
    found = {row[:at] + sign + sign.swapcase() + row[at:] for at in range(len(row) + 1) for sign in signs}
    found |= {row[:at] + row[at + 2:] for at in range(len(row) - 1) if row[at] == row[at + 1].swapcase()}
    return found


class TestReduced(unittest.TestCase):
    def test_by_taking_out_alone(self):
        for row in all_rows(2, 6):
            self.assertEqual(reduced(row), taken_out(row))
            self.assertEqual(is_reduced(row), is_plain(row))

    def test_signs_of_all_posts(self):
        for sign in support.SIGNS:
            self.assertEqual(reduced(sign + sign.swapcase()), "")
            self.assertEqual(reduced(sign + sign), sign + sign)
            self.assertEqual(turned(sign), sign.swapcase())

    def test_empty(self):
        self.assertEqual((reduced(""), turned(""), joined([]), core(""), times("", 5)), ("", "", "", ("", ""), ""))
        self.assertTrue(is_reduced(""))

    def test_long(self):
        drawn = draws(1)
        for length in (299, 300, 2000):
            row = drawn_row(drawn, 2, length)
            self.assertEqual(reduced(row), taken_out(row) if length < 2000 else joined([reduced(row)]))
            self.assertEqual(joined([row, turned(row)]), "")
        self.assertEqual(reduced("ab" * 20000 + "BA" * 19999), "ab")

    def test_turned(self):
        for row in SMALL:
            self.assertEqual(turned(row), support.turned(row))
            self.assertEqual(turned(turned(row)), row)
        self.assertEqual(turned("aAb"), "BaA")


class TestJoined(unittest.TestCase):
    def test_one_behind_another(self):
        drawn = draws(2)
        for _ in range(200):
            rows = [drawn_row(drawn, 3, drawn(6)) for _ in range(drawn(5))]
            self.assertEqual(joined(rows), taken_out("".join(rows)))

    def test_times(self):
        for row in SMALL:
            for many in range(5):
                self.assertEqual(times(row, many), taken_out(row * many))
                self.assertEqual(times(row, -many), taken_out(support.turned(row) * many))

    def test_so_many_times(self):
        self.assertEqual(times("abA", 1000), "a" + "b" * 1000 + "A")
        self.assertEqual(times("abA", -1000), "a" + "B" * 1000 + "A")
        self.assertEqual(times("aA", 7), "")
        self.assertEqual(len(times("ab" * 150, 1000)), 300000)


class TestAlike(unittest.TestCase):
    def test_exactly_if_reduced_rows_are_equal(self):
        for one in SMALL[:90]:
            for other in SMALL[:90]:
                self.assertEqual(alike(one, other), taken_out(one) == taken_out(other))

    def test_moves_leave_rows_alike(self):
        for row in SMALL:
            for other in moves(row, 2):
                self.assertTrue(alike(row, other))
                self.assertTrue(chain_holds(row, other, (row, other)))
                self.assertTrue(chain_holds(other, row, (other, row)))


class TestChain(unittest.TestCase):
    def assert_chain(self, one, other, value):
        self.assertIsInstance(value, tuple)
        self.assertEqual((value[0], value[-1]), (one, other))
        for row, following in zip(value, value[1:]):
            self.assertIn(following, moves(row, 8))
        self.assertTrue(chain_holds(one, other, value))

    def test_some_chain(self):
        for one in SMALL[::3]:
            for other in SMALL[::2]:
                value = chain(one, other)
                if taken_out(one) == taken_out(other):
                    self.assert_chain(one, other, value)
                else:
                    self.assertIsNone(value)

    def test_equal_rows(self):
        for row in ("", "a", "aA", "abBa", "aAaA" * 20):
            self.assertEqual(chain(row, row), (row,))
            self.assertTrue(chain_holds(row, row, (row,)))

    def test_long_rows(self):
        drawn = draws(3)
        for _ in range(3):
            row = drawn_row(drawn, 2, 300)
            left = taken_out(row)
            self.assert_chain(row, left, chain(row, left))
        one, other = "a" * 150 + "A" * 150, "hH" * 150
        value = chain(one, other)
        self.assertTrue(chain_holds(one, other, value))
        self.assertTrue(chain_holds(other, one, value[::-1]))

    def test_holds_exactly_for_moves(self):
        rows = all_rows(1, 4) + ["b", "aB", "bB", "aAb", "abB", "bBa"]
        for one in rows:
            for other in rows:
                self.assertEqual(chain_holds(one, other, (one, other)), other in moves(one, 2), (one, other))

    def test_longer_chains_hold(self):
        self.assertTrue(chain_holds("", "aA", ("", "bB", "", "aA")))
        self.assertTrue(chain_holds("", "", ("", "hH", "")))
        self.assertTrue(chain_holds("aAa", "a", ("aAa", "a", "aAa", "a")))

    def test_other_values_do_not_hold(self):
        wrong = ["", "a", ("a",), ("", "a"), ("aA",), ("aA", "", ""), ("aA", "aA", ""), ["aA", ""], ("", "aA"), (),
            ("aA", "aAbB", "bB"),
                 ("aA", None, ""), ("aA", ["", "aA"], ""), ("aA", "i", ""), ("aA", "?", ""), ("aA", 0, ""),
                 ("aA", ("aA", ""))]
        for value in wrong + list(NO_STRINGS):
            self.assertFalse(chain_holds("aA", "", value), value)
        for value in ((), [""], "", ("", ""), ("aA",), ("aA", ""), ("", "aA")):
            self.assertFalse(chain_holds("", "", value), value)
        self.assertFalse(chain_holds("a", "b", ("a", "b")))
        self.assertFalse(chain_holds("aAbB", "", ("aAbB", "")))
        self.assertFalse(chain_holds("ab", "ba", ("ab", "ba")))


class TestCore(unittest.TestCase):
    def test_arm_core_and_turned_arm(self):
        for row in all_rows(2, 5):
            arm, middle = core(row)
            self.assertEqual(arm + middle + support.turned(arm), taken_out(row))
            self.assertTrue(middle == "" or middle[0] != middle[-1].swapcase())
            self.assertFalse(middle == "" and arm)

    def test_windings(self):
        for row in all_rows(2, 4):
            self.assertEqual(windings(row, 2), tuple(row.count(x) - row.count(x.upper()) for x in "ab"))
            self.assertEqual(windings(row, 2), windings(taken_out(row), 2))
        self.assertEqual(windings("", 1), (0,))
        self.assertEqual(windings("hHhgA", 8), (-1, 0, 0, 0, 0, 0, 1, 1))

    def test_without(self):
        drawn = draws(4)
        for lot in all_lots(4):
            row = drawn_row(drawn, 4, 12)
            self.assertEqual(without(row, lot), "".join(sign for sign in row if sign.lower() not in lot))
        self.assertEqual(without("abBA", "b"), "aA")
        self.assertEqual(without("abBA", ""), "abBA")
        self.assertEqual(without("", "abcdefgh"), "")
        self.assertEqual(without("aBcDeFgH", "abcdefgh"), "")

    def test_alike_rows_are_alike_without_a_lot(self):
        for row in reduced_rows(2, 2):
            for other in moves(row, 2):
                for lot in all_lots(2):
                    self.assertEqual(reduced(without(row, lot)), reduced(without(other, lot)))


if __name__ == "__main__":
    unittest.main()
