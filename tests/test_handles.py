"""Handles, pairings, cuts and squares ([49] to [52])."""

import unittest
from itertools import product

from ropesheld.handles import handle_cut, handle_cut_holds, handle_pairs, handle_pairs_hold, handles
from ropesheld.pairings import handles_of, pairing, pairing_holds
from ropesheld.squares import square_rows, square_rows_hold, squares
from tests.support import NO_STRINGS, all_rows, draws, drawn_row, reduced_rows, taken_out, turned


def told_core(row):
    """The core of a row, told by taking its ends away one by one."""
    row = taken_out(row)
    while row and row[0] == row[-1].swapcase():
        row = row[1:-1]
    return row


def told_pairings(word, loose):
    """All pairings of a word, also loose ones if these are told."""
    def go_on(left):
        if not left:
            return [()]
        found = []
        for other in left[1:]:
            one, further = word[left[0]], word[other]
            if one == further.swapcase() or loose and one == further:
                rest = [place for place in left[1:] if place != other]
                found += [((left[0], other),) + pairs for pairs in go_on(rest)]
        return found
    return go_on(list(range(len(word))))


def told_corners(word, pairs):
    """How many unlike corners a pairing leaves, by going from corner to corner."""
    many = len(word)
    beside = {corner: set() for corner in range(many)}
    for i, j in pairs:
        ends = ((i, j), (i + 1, j + 1)) if word[i] == word[j] else ((i, j + 1), (i + 1, j))
        for one, other in ends:
            beside[one % many].add(other % many)
            beside[other % many].add(one % many)
    lots = set()
    for corner in range(many):
        met = {corner}
        for _ in range(many):
            met |= {other for one in met for other in beside[one]}
        lots.add(frozenset(met))
    return len(lots)


def told_handles(row):
    """The least number of handles of all pairings of a row, or None."""
    word = told_core(row)
    return min(((len(word) // 2 - told_corners(word, pairs) + 1) // 2 if word else 0
                for pairs in told_pairings(word, False)), default=None)


def told_squares(row):
    """The least number of squares by all loose pairings of a row and its handles, or None."""
    word, numbers = told_core(row), []
    if word == "":
        return 0
    for pairs in told_pairings(word, True):
        if any(word[i] == word[j] for i, j in pairs):
            numbers.append(len(word) // 2 - told_corners(word, pairs) + 1)
    if told_handles(row) is not None:
        numbers.append(2 * told_handles(row) + 1)
    return min(numbers, default=None)


def turn(u, v):
    """The turn of two rows."""
    return u + v + turned(u) + turned(v)


def shuffled(drawn, posts, many, loose):
    """Some row of signs of which each one comes with its other one, or if told with the same one."""
    signs = list(drawn_row(drawn, posts, many))
    signs += [sign if loose and drawn(2) else sign.swapcase() for sign in signs]
    for at in range(len(signs) - 1, 0, -1):
        other = drawn(at + 1)
        signs[at], signs[other] = signs[other], signs[at]
    return "".join(signs)


drawn = draws(111)
EVEN = [row for row in reduced_rows(2, 6) if len(row) % 2 == 0][::23]
BALANCED = [shuffled(drawn, posts, many, False) for posts in (2, 3, 4) for many in (2, 3, 4, 5, 6) for _ in range(6)]
BALANCED += ["", "aA", "abBA", "abAB", "abABcdCD", "abcABC", "aabABA", "abcBACacAC", "hgHG", "babABB", "aabbAABB"]
LOOSE = [shuffled(drawn, posts, many, True) for posts in (1, 2, 3) for many in (1, 2, 3, 4) for _ in range(6)]
LOOSE += ["aa", "aabb", "abab", "abaB", "abAb", "aabbcc", "aaaa", "aabAAB", "aaabbb", "hH", "ggHH"]


class TestPairings(unittest.TestCase):
    def test_as_few_handles_as_any(self):
        for row in EVEN + BALANCED + LOOSE:
            pairs, told = pairing(row), told_handles(row)
            self.assertEqual(handles(row), told)
            if told is None:
                self.assertIsNone(pairs)
            else:
                self.assertIn(pairs, told_pairings(told_core(row), False))
                self.assertEqual(handles_of(row, pairs), told)
                self.assertTrue(pairing_holds(row, pairs))

    def test_none_exactly_for_posts_that_are_wound(self):
        for row in EVEN + all_rows(2, 3) + BALANCED:
            wound = any(row.count(post) != row.count(post.upper()) for post in "abcdefgh")
            for function in (handles, pairing, handle_pairs):
                self.assertEqual(function(row) is None, wound)

    def test_handles_of_all_pairings(self):
        for row in ("abAB", "aabABA", "abcABC", "aabbAABB", "abABcdCD", "babaBABA", "cabABC", "aaabAAAB"):
            word = told_core(row)
            for pairs in told_pairings(word, False):
                self.assertEqual(handles_of(row, pairs), (len(word) // 2 - told_corners(word, pairs) + 1) // 2)
                self.assertTrue(pairing_holds(row, pairs))
        self.assertEqual((handles_of("", ()), handles_of("abBA", ()), pairing("aA"), pairing("")), (0, 0, (), ()))

    def test_other_values_are_no_pairings(self):
        pairs = ((0, 2), (1, 3))
        self.assertTrue(pairing_holds("abAB", pairs))
        self.assertTrue(pairing_holds("cabABC", pairs))
        wrong = [((1, 3), (0, 2)), ((2, 0), (1, 3)), ((0, 2),), ((0, 2), (1, 3), (1, 3)), [(0, 2), (1, 3)],
                 ((0, 1), (2, 3)), ([0, 2], [1, 3]), ((0, 3), (1, 2)), ((0, 2), (1, 2)), ((0, 2), (1, 3, 4)),
                 ((0, 2), (1,)), ((0, 2), None), ((False, 2), (True, 3)), ((0, 2), (-3, -1)), ((0, 2), (1, 7)),
                 ((0, "2"), (1, 3)), (0, 2, 1, 3), "ab", (), ((0, 4), (1, 3)), ((0, 0), (1, 1), (2, 2), (3, 3))]
        for value in wrong + list(NO_STRINGS):
            self.assertFalse(pairing_holds("abAB", value), value)
            if value != ():
                self.assertFalse(pairing_holds("aA", value), value)
        self.assertTrue(pairing_holds("aA", ()))
        self.assertFalse(pairing_holds("ab", ((0, 1),)))
        self.assertFalse(pairing_holds("aa", ((0, 1),)))

    def test_long_cores(self):
        some = draws(112)
        for posts in (2, 2, 3, 4, 8):
            row = shuffled(some, posts, 8, False)
            self.assertEqual(handles_of(row, pairing(row)), handles(row))
        for row in ("aaaaaabAAAAAAB", "aaabbbaAAABBBA", "abcdefgABCDEFG", "aaabaabAAABAAB",
                    "a" * 7 + "b" + "A" * 7 + "B"):
            self.assertTrue(handle_pairs_hold(row, handle_pairs(row)))
            self.assertEqual(len(handle_pairs(row)), handles(row))
        self.assertEqual((handles("ab" * 150), handles("abcdefgABCDEFG"), handles("abABcdCDefEF")), (None, 3, 3))


class TestHandles(unittest.TestCase):
    def test_some_pairs(self):
        for row in BALANCED:
            pairs = handle_pairs(row)
            self.assertIsInstance(pairs, tuple)
            self.assertEqual(len(pairs), told_handles(row))
            self.assertEqual(taken_out("".join(turn(u, v) for u, v in pairs)), taken_out(row))
            self.assertTrue(handle_pairs_hold(row, pairs))
            self.assertEqual(handles("ab" + row + "BA"), len(pairs))
        self.assertEqual((handle_pairs(""), handle_pairs("aA"), handle_pairs("aab")), ((), (), None))

    def test_no_fewer_handles(self):
        rows = reduced_rows(2, 2)
        for u, v in product(rows, repeat=2):
            row = taken_out(turn(u, v))
            self.assertEqual(handles(row), 0 if row == "" else 1)
            for more in (("a", "b"), ("ab", "a")):
                self.assertLessEqual(handles(row + turn(*more)), 2)

    def test_handle_pairs_hold(self):
        rows = all_rows(2, 1)
        pairs = list(product(rows, repeat=2))
        for value in [()] + [(pair,) for pair in pairs] + [(pair, ("b", "aB")) for pair in pairs]:
            for row in ("", "abAB", "baBA", "aA", "abABbaBA", "aab"):
                told = taken_out("".join(turn(u, v) for u, v in value)) == taken_out(row)
                self.assertEqual(handle_pairs_hold(row, value), told)
        self.assertTrue(handle_pairs_hold("abAB", (("ab", "A"),)))
        self.assertTrue(handle_pairs_hold("abAB", (("a", "b"), ("", "b"), ("aA", "hH"))))
        wrong = [[("a", "b")], (["a", "b"],), ("a", "b"), (("a", "b", ""),), (("a",), ("b",)), (("a", "i"),),
                 (("i", "a"),), ((None, "a"),), (("a", None),), (("a", "b"), None), "ab", (("a", "b?"),),
                 ((("a", "b"),),), (("a", "b"), ())]
        for value in wrong + list(NO_STRINGS):
            self.assertFalse(handle_pairs_hold("abAB", value), value)
        for value in [value for value in NO_STRINGS if value != ()] + ["", ("", "")]:
            self.assertFalse(handle_pairs_hold("", value), value)


class TestCuts(unittest.TestCase):
    def assert_cut(self, row):
        value = handle_cut(row)
        self.assertIsInstance(value, tuple)
        arm, x, y, z = value
        self.assertEqual(taken_out(arm + x + y + z + turned(x) + turned(y) + turned(z) + turned(arm)), taken_out(row))
        self.assertTrue(handle_cut_holds(row, value))

    def test_exactly_for_one_handle_or_none(self):
        for row in EVEN + BALANCED + LOOSE + all_rows(2, 3):
            if told_handles(row) in (0, 1):
                self.assert_cut(row)
            else:
                self.assertIsNone(handle_cut(row))

    def test_long_rows(self):
        some = draws(113)
        for posts, length in ((2, 15), (3, 14), (8, 14), (2, 50)):
            for _ in range(8):
                u, v = drawn_row(some, posts, length), drawn_row(some, posts, length)
                self.assert_cut("ab" + turn(u, v) + "BA")
        self.assertIsNone(handle_cut("abABcdCD" + "ef" * 12 + "FE" * 12 + "abABcdCD"))
        self.assertIsNone(handle_cut("ab" * 30))
        self.assertIsNone(handle_cut("aabb" * 15))
        self.assertIsNone(handle_cut("abABcdCD"))

    def test_cut_holds(self):
        parts = ["", "a", "b", "B", "ab"]
        for row in ("", "abAB", "aabABA", "abcABC", "ab"):
            for value in product(["", "a", "B"], parts, parts, parts):
                arm, x, y, z = value
                told = taken_out(arm + x + y + z + turned(x) + turned(y) + turned(z) + turned(arm))
                self.assertEqual(handle_cut_holds(row, value), told == taken_out(row))
        self.assertTrue(handle_cut_holds("abAB", ("", "a", "b", "")))
        self.assertTrue(handle_cut_holds("abAB", ("hH", "aA", "a", "bcC")))
        wrong = [["", "a", "b", ""], ("", "a", "b"), ("", "a", "b", "", ""), ("", "a", "b", None), ("", "a", "i", ""),
                 "ab", ("", "a", ("b",), ""), (("", "a", "b", ""),), ("", "b", "a", ""), ("a", "a", "b", "")]
        for value in wrong + list(NO_STRINGS):
            self.assertFalse(handle_cut_holds("abAB", value), value)
            self.assertFalse(handle_cut_holds("ab", value), value)


class TestSquares(unittest.TestCase):
    def test_as_few_squares_as_any(self):
        for row in EVEN + BALANCED[:60] + LOOSE:
            if len(told_core(row)) <= 10:
                told, value = told_squares(row), square_rows(row)
                self.assertEqual(squares(row), told, row)
                if told is None:
                    self.assertIsNone(value)
                else:
                    self.assertIsInstance(value, tuple)
                    self.assertEqual(len(value), told)
                    self.assertEqual(taken_out("".join(part + part for part in value)), taken_out(row))
                    self.assertTrue(square_rows_hold(row, value))

    def test_none_exactly_for_posts_that_are_wound_an_odd_number_of_times(self):
        for row in all_rows(2, 4) + EVEN + ["aab" * 101, "abc" * 99, "h"]:
            odd = any(row.lower().count(post) % 2 for post in "abcdefgh")
            self.assertEqual((squares(row) is None, square_rows(row) is None), (odd, odd))

    def test_no_fewer_squares(self):
        rows = reduced_rows(2, 2)
        for u, v in product(rows, repeat=2):
            one, both = taken_out(u + u), taken_out(u + u + v + v)
            self.assertEqual(squares(one), 0 if one == "" else 1)
            self.assertLessEqual(squares(both), 2)
            self.assertLessEqual(squares(both + "abAB"), 4 if both else 3)
            self.assertEqual(squares("aB" + both + "bA"), squares(both))
        self.assertEqual([squares(row) for row in ("", "aA", "aa", "aabb", "abAB", "abaB", "aabbcc", "abABcdCD")],
                         [0, 0, 1, 2, 3, 2, 3, 5])
        self.assertEqual((square_rows(""), square_rows("bB"), squares("a" * 10), squares("aaaaaaaabb")), ((), (), 1, 2))

    def test_square_rows_hold(self):
        rows = all_rows(2, 1)
        for value in [()] + [(u,) for u in rows] + list(product(rows, repeat=2)) + [("a", "Ab", "B"), ("aB", "b", "A")]:
            for row in ("", "aa", "aabb", "abAB", "BB", "aA", "aAa"):
                told = taken_out("".join(part + part for part in value)) == taken_out(row)
                self.assertEqual(square_rows_hold(row, value), told)
        wrong = [["a", "Ab", "B"], ("a", "Ab"), ("a", "Ab", "B", "i"), ("a", "Ab", "B", None), "aAbB",
                 ("a", ("Ab",), "B"), (("a", "Ab", "B"),)]
        for value in wrong + list(NO_STRINGS):
            self.assertFalse(square_rows_hold("abAB", value), value)
        self.assertTrue(square_rows_hold("", ("", "aA", "bB")))
        self.assertFalse(square_rows_hold("", []))

    def test_long_cores(self):
        for row in ("ababababaa", "aabbccddee", "aabAABaabb", "abcdeabcde", "aaaaaabbbb", "abcdABCDabab"):
            self.assertEqual(len(square_rows(row)), squares(row))
            self.assertTrue(square_rows_hold(row, square_rows(row)))


if __name__ == "__main__":
    unittest.main()
