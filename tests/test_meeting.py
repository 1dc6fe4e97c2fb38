"""Webs of two webs, moved webs, and sides of webs ([38], [39])."""

import unittest

from ropesheld.meeting import is_within, joined_web, meet, moved, mover
from ropesheld.rows import times
from ropesheld.sides import all_sides, same_side, side_of, sides
from ropesheld.tying import base, rank, tied
from ropesheld.webs import Web
from tests.support import EVENS, WEB, all_rows, draws, drawn_row, order, reduced_rows, taken_out, turned

LOTS = [[], ["a"], ["b"], ["aa", "b", "abA"], ["abAB", "aab"], ["ab", "ba"], ["aaa", "b"], ["aabb"], ["abA"],
        ["abbA", "a"], ["a", "b"], ["aa", "ab", "ba"], ["aa", "bb", "abab"], ["bab", "aab"],
        ["aa", "aB", "bbb"], ["baaB"], ["aabAA"], ["abaBA", "abbBA"]]
drawn = draws(71)
LOTS += [[drawn_row(drawn, 2, drawn(6)) for _ in range(1 + drawn(3))] for _ in range(14)]
SHORT = reduced_rows(2, 5)


class TestMeeting(unittest.TestCase):
    def test_what_is_tied_in_both(self):
        for ropes in LOTS:
            for others in LOTS[::2]:
                one, other = Web(2, ropes), Web(2, others)
                web = meet(one, other)
                self.assertEqual((web, web.size, web.posts), (meet(other, one), len(Web(2, base(web)).goals), 2))
                self.assertEqual(web, Web(2, base(web)))
                for row in SHORT[::3]:
                    self.assertEqual(web.has(row), one.has(row) and other.has(row))
                self.assertTrue(is_within(web, one) and is_within(web, other))
                if min(rank(web), rank(one), rank(other)) > 0:
                    self.assertLessEqual(rank(web) - 1, (rank(one) - 1) * (rank(other) - 1))

    def test_all_ropes_of_both(self):
        for ropes in LOTS:
            for others in LOTS:
                one, other = Web(2, ropes), Web(2, others)
                self.assertEqual(joined_web(one, other), Web(2, ropes + others))
                told = all(tied(2, others, row) is not None for row in ropes)
                self.assertEqual(is_within(one, other), told)
                self.assertEqual(joined_web(one, other) == other, told)
                self.assertEqual(meet(one, other) == one, told)

    def test_places_of_these_webs(self):
        web = meet(Web(1, ["a" * 4]), Web(1, ["a" * 6]))
        self.assertEqual((web, web.size, len(web.ties)), (Web(1, ["a" * 12]), 12, 12))
        self.assertEqual(meet(Web(2, ["aab"]), Web(2, ["aaB"])), Web(2, []))
        self.assertEqual(joined_web(Web(1, ["a" * 4]), Web(1, ["a" * 6])), Web(1, ["aa"]))
        self.assertEqual(meet(Web(3, ["abA", "c"]), Web(3, ["c", "abbA"])), Web(3, ["abbA", "c"]))

    def test_great_meets(self):
        one, other = Web(1, ["a" * 119]), Web(1, ["a" * 120])
        web = meet(one, other)
        self.assertEqual((web.size, web.has("a" * 119 * 120), web.has("a" * 119)), (119 * 120, True, False))
        self.assertEqual(mover(web, moved(web, "aaa")), "")
        some = draws(72)
        lots = (["a" * 40, "bb", "c"], ["a" * 38, "b", "cc", "abA"])
        webs = [Web(4, [drawn_row(some, 4, 40), *rows]) for rows in lots]
        web = meet(*webs)
        self.assertTrue(all(row.has(rope) for row in webs for rope in base(web)))
        self.assertTrue(web.has(times("a", 38 * 20)))
        rings = [Web(2, ["a" * many, "b"] + ["a" * k + "b" + "A" * k for k in range(1, many)]) for many in (60, 59)]
        web = meet(*rings)
        self.assertEqual((web.size, rank(web), sides(web)), (60 * 59, 60 * 59 + 1, 60 * 59))
        self.assertTrue(is_within(web, rings[0]) and is_within(web, rings[1]))
        self.assertEqual(all_sides(web)[-1], "a" * 1770)


class TestMoved(unittest.TestCase):
    def test_all_ropes_between_the_turned_row_and_the_row(self):
        for ropes in LOTS:
            web = Web(2, ropes)
            for row in SHORT[:100:7] + ["a", "ab", "abAABa", "aAb", "bbbAA"]:
                goal = Web(2, [turned(row) + rope + row for rope in ropes])
                self.assertEqual(moved(web, row), goal)
                self.assert_mover(web, goal)
                self.assert_mover(goal, web)

    def assert_mover(self, one, other):
        row = mover(one, other)
        self.assertEqual(row, taken_out(row))
        self.assertEqual(Web(2, [turned(row) + rope + row for rope in base(one)]), other)

    def test_no_mover(self):
        for ropes in LOTS:
            webs = [Web(2, [turned(row) + rope + row for rope in ropes]) for row in SHORT[:90]]
            for others in LOTS:
                if mover(Web(2, ropes), Web(2, others)) is None:
                    self.assertNotIn(Web(2, others), webs)
                else:
                    self.assert_mover(Web(2, ropes), Web(2, others))
        self.assertIsNone(mover(Web(2, []), Web(2, ["a"])))
        self.assertIsNone(mover(Web(2, ["aabb"]), Web(2, ["abab"])))
        self.assertEqual(mover(Web(2, []), Web(2, ["aA"])), "")

    def test_webs_that_go_round_in_others(self):
        # Of these two, with as many places and ties, the one goes along ties of the other one all the time.
        one, other = Web(3, ["aa", "b", "abA"]), Web(3, ["a", "b", "caC"])
        self.assertEqual((one.size, len(one.ties)), (other.size, len(other.ties)))
        self.assertTrue(is_within(one, other))
        self.assertIsNone(mover(one, other))
        self.assertIsNone(mover(other, one))
        self.assertIsNone(mover(one, moved(other, "cab")))

    def test_far_away(self):
        some = draws(73)
        row = drawn_row(some, 4, 300)
        web = Web(4, [drawn_row(some, 4, 60) for _ in range(64)])
        goal = moved(web, row)
        self.assertTrue(goal.has(turned(row) + base(web)[5] + row))
        self.assertEqual(moved(goal, turned(row)), web)
        self.assertEqual(moved(goal, mover(goal, web)), web)
        self.assertEqual(moved(web, mover(web, goal)), goal)


class TestSides(unittest.TestCase):
    def test_least_rows(self):
        for ropes in LOTS[::2]:
            web = Web(2, ropes)
            for row in SHORT[:161:5]:
                told = next(other for other in SHORT if web.has(row + turned(other)))
                self.assertEqual(side_of(web, row), told)
                self.assertEqual(side_of(web, "bB" + row), told)
                self.assertTrue(same_side(web, row, told))

    def test_same_side(self):
        for ropes in LOTS[::3]:
            web = Web(2, ropes)
            for one in all_rows(2, 2):
                for other in all_rows(2, 2):
                    told = tied(2, ropes, one + turned(other)) is not None
                    self.assertEqual(same_side(web, one, other), told)
                    self.assertEqual(side_of(web, one) == side_of(web, other), told)

    def test_all_sides(self):
        finitely = [["a", "b"], ["aa", "b", "abA"], ["aa", "ab", "ba"], ["aaa", "b", "abA", "aabAA"],
                    ["aa", "bb", "abA", "baab", "aB", "bAb"], ["aa", "bb", "abab", "abbA", "baaB"]]
        for ropes in finitely + LOTS[::2]:
            web, least = Web(2, ropes), ()
            for row in SHORT[:161]:
                if not any(web.has(row + turned(other)) for other in least):
                    least += (row,)
            ends = [[tie[end] for tie in web.ties if tie[1] == post] for post in "ab" for end in (0, 2)]
            if all(sorted(places) == list(range(web.size)) for places in ends):
                self.assertEqual((sides(web), all_sides(web)), (len(least), least))
            else:
                self.assertEqual((sides(web), all_sides(web)), (None, None))
                self.assertGreater(len(least), web.size)

    def test_edges(self):
        self.assertEqual((sides(Web(1, [])), all_sides(Web(1, []))), (None, None))
        self.assertEqual((sides(Web(1, ["a"])), all_sides(Web(1, ["a"]))), (1, ("",)))
        self.assertEqual((sides(Web(2, ["a"])), all_sides(Web(2, ["a"]))), (None, None))
        self.assertEqual(all_sides(Web(1, ["a" * 5])), ("", "a", "A", "aa", "AA"))
        self.assertEqual((sides(EVENS), all_sides(EVENS)), (2, ("", "a")))
        self.assertEqual((side_of(WEB, "aa"), side_of(WEB, "abb"), side_of(WEB, "aA"), side_of(Web(8, []), "hHg")),
                         ("B", "abb", "", "g"))
        self.assertEqual(side_of(Web(1, ["a" * 60]), "a" * 299), "A")
        self.assertEqual(list(all_sides(Web(1, ["a" * 60]))), sorted(all_sides(Web(1, ["a" * 60])), key=order))


if __name__ == "__main__":
    unittest.main()
