"""Ropes that fall together ([53])."""

import unittest
from itertools import product

from ropesheld.closed import same_closed
from ropesheld.sheets import fall_together, fall_together_holds
from tests.support import NO_STRINGS, all_rows, draws, drawn_row, reduced_rows, taken_out, turned
from tests.test_handles import shuffled, told_core, told_pairings


def told_together(rows):
    """Whether rows fall together, by all pairings of the signs of their cores, taken as rings side by side."""
    words = [word for word in map(told_core, rows) if word]
    ring = [number for number, word in enumerate(words) for _ in word]
    behind, at = [], 0
    for word in words:
        behind += [at + (spot + 1) % len(word) for spot in range(len(word))]
        at += len(word)
    for pairs in told_pairings("".join(words), False):
        corners = lots([(i, behind[j]) for i, j in pairs] + [(behind[i], j) for i, j in pairs], len(behind))
        hanging = lots([(ring[i], ring[j]) for i, j in pairs], len(words))
        if len(behind) // 2 - corners == len(words) - 2 * hanging:
            return True
    return False


def lots(pairs, many):
    """How many lots there are of so many things, if pairs of them hang together."""
    number = list(range(many))
    for one, other in pairs:
        number = [number[one] if held == number[other] else held for held in number]
    return len(set(number))


def made(rows, arms):
    """The reduced row of ropes, one behind the other, each between an arm and this turned."""
    return taken_out("".join(arm + row + turned(arm) for row, arm in zip(rows, arms)))


some = draws(531)
CUT = []
for posts, many in ((1, 2), (1, 4), (2, 2), (2, 3), (2, 3), (2, 4), (2, 4), (2, 5), (3, 4), (3, 5), (3, 5)):
    for ropes in (1, 2, 3, 4):
        for _ in range(3):
            word = shuffled(some, posts, many, False)
            ends = sorted(some(len(word) + 1) for _ in range(ropes - 1))
            arms = [drawn_row(some, 3, some(4)) for _ in range(ropes)]
            parts = [word[i:j] for i, j in zip([0, *ends], [*ends, len(word)])]
            CUT.append([arm + part + turned(arm) for arm, part in zip(arms, parts)])


class TestSheets(unittest.TestCase):
    def assert_together(self, rows):
        arms = fall_together(rows)
        self.assertIsInstance(arms, tuple)
        self.assertEqual(len(arms), len(rows))
        self.assertEqual(made(rows, arms), "", (rows, arms))
        self.assertTrue(fall_together_holds(rows, arms))
        self.assertEqual(arms, fall_together(tuple(rows)))

    def assert_told(self, rows):
        if told_together(rows):
            self.assert_together(rows)
        else:
            self.assertIsNone(fall_together(rows), rows)

    def test_exactly_where_some_pairing_makes_no_handle(self):
        for rows in CUT:
            self.assert_told(rows)
        for rows in product(reduced_rows(2, 2), repeat=2):
            self.assert_told(rows)
        for rows in list(product(reduced_rows(2, 2), repeat=3))[::11]:
            self.assert_told(rows)
        for row in reduced_rows(2, 4):
            self.assertEqual(fall_together([row]) is None, row != "", row)

    def test_two_fall_together_if_the_one_is_the_other_turned(self):
        rows = reduced_rows(2, 3)
        for one, other in list(product(rows, repeat=2))[::3]:
            self.assertEqual(fall_together([one, other]) is None, not same_closed(one, turned(other)))

    def test_what_is_made_to_fall(self):
        drawn = draws(532)
        for many, length in ((2, 5), (3, 3), (3, 4), (4, 2), (4, 3), (5, 2), (6, 1)):
            for _ in range(8):
                rows = [drawn_row(drawn, 2, length) for _ in range(many - 1)]
                arms = [drawn_row(drawn, 3, 4) for _ in rows]
                whole = made(rows, arms)
                last = drawn_row(drawn, 3, 3)
                if len(told_core(whole)) <= 8:
                    rows.insert(drawn(many), last + turned(whole) + turned(last))
                    self.assert_together(rows)
        self.assert_together(["ab", "A", "B"])
        self.assert_together(["A", "ab", "B"])
        self.assert_together(["abAB", "baBA"])
        self.assert_told(["abAB", "aB", "bA", "BabA"])

    def test_rows_that_reduce_to_nothing_and_alike_ones(self):
        for rows in ([""], ["", ""], ["aA"], ["", "aA", "bB"], ["a", "A"], ["a", "", "A"], ["A", "aA", "a", ""],
                     ["a", "a", "A", "A"], ["ab", "BA", "ab", "BA"], ["a", "b", "A", "B"], ["abcCBA", "hgGH"]):
            self.assert_together(rows)
        for rows in (["a"], ["a", "a"], ["", "b"], ["a", "b"], ["abAB"], ["abAB", "aA"], ["abAB", "abAB"],
                     ["a", "b", "AB"], ["ab", "AB"], ["aab", "AbA"], ["h"], ["abAB", "cdCD"]):
            self.assert_told(rows)

    def test_limits(self):
        for rows in (["aa", "aa", "AA", "AAbB"], ["abab", "AB", "AB"], ["aabbb", "AABBB"], ["ab", "aB", "Ab", "AABb"],
                     ["aba", "Abb", "AB", "ABaA"], ["a" * 5, "A" * 5], ["aaaaaa", "AA", "AA", "AA"],
                     ["aab" + "c" * 20 + "d" + "C" * 20 + "BAA", "D"], ["abABab", "BAbaBA"],
                     ["ab" * 3, "aB" * 3, "AA" * 3],
                     ["aabb", "aBAb", "AABB"]):
            self.assert_told(rows)
        for rows in (["ab" * 150, "cd" * 150], ["ab" * 150] * 4, ["a" * 300, "A" * 299]):
            self.assertIsNone(fall_together(rows))
        self.assert_together(["ab" * 40 + "c" + "BA" * 40, "C"])

    def test_holds(self):
        arms = ["", "a", "B", "ab"]
        for rows in (["ab", "A", "B"], ["a", "A"], ["abAB", "baBA"], ["b", "a", "B"]):
            for value in product(arms, repeat=len(rows)):
                self.assertEqual(fall_together_holds(rows, value), made(rows, value) == "")
                self.assertEqual(fall_together_holds(tuple(rows), value), made(rows, value) == "")
        self.assertTrue(fall_together_holds(["a", "A"], ("hH", "aAaa")))
        wrong = [["", ""], ("",), ("", "", ""), ("", None), ("", "i"), ("?", ""), (("", ""),), "", ("", ("",)), ()]
        for value in wrong + list(NO_STRINGS):
            if value != ("", ""):
                self.assertFalse(fall_together_holds(["a", "A"], value), value)
        self.assertTrue(fall_together_holds([""], ("ab",)))
        self.assertFalse(fall_together_holds(["a"], ("ab",)))
        for row in all_rows(2, 2):
            self.assertEqual(fall_together_holds(["ab", "BA"], (row, "")), made(["ab", "BA"], [row, ""]) == "")


if __name__ == "__main__":
    unittest.main()
