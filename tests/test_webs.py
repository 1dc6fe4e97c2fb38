"""Webs, knots and side houses ([34] to [37])."""

import unittest

from ropesheld.houses import House
from ropesheld.outside import side_holds, side_house
from ropesheld.tying import base, idle, is_free, rank, tied, tied_holds
from ropesheld.webs import Web
from tests.support import (
    EVENS, HOUSE, NO_STRINGS, ROPES, WEB, all_houses, all_rows, draws, drawn_row, order, reduced_rows, taken_out,
    told_goal, told_web, turned)

drawn = draws(61)
LOTS = [
    (1, []), (1, ["aA"]), (1, ["a"]), (1, ["aaaa", "AAAAAA"]), (2, []), (2, ["a"]), (2, ["", "bB"]), (2, ["a", "b"]),
    (2, ["abA"]), (2, ["abA", "b"]), (2, ROPES), (2, ["aa", "b", "abA"]), (2, ["ab", "ba"]), (2, ["aaa", "abab"]),
    (2, ["aab", "abb", "ab"]), (3, ["aBc", "cab", "b"]), (3, ["abcABC", "c"]), (8, ["hAh", "Hg"])]
LOTS += [(posts, [drawn_row(drawn, posts, drawn(7)) for _ in range(drawn(5))]) for posts in [1, 2, 2, 2, 3, 4] * 6]


def joined_knot(ropes, knot):
    """What a knot makes of told ropes."""
    return taken_out("".join(turned(ropes[number]) if back else ropes[number] for number, back in knot))


class TestWebs(unittest.TestCase):
    def test_places_and_ties(self):
        for posts, ropes in LOTS:
            web = Web(posts, ropes)
            self.assertEqual((web.posts, web.ties, web.size), (posts, *told_web(posts, ropes)), ropes)

    def test_what_leads_home_is_tied(self):
        for posts, ropes in LOTS:
            web = Web(posts, ropes)
            for row in all_rows(min(posts, 3), 3):
                place = self.told_place(web, row)
                self.assertEqual(web.place_of(row), place)
                self.assertEqual(web.has(row), place == 0)
                self.assertEqual(tied(posts, ropes, row) is not None, place == 0)
                self.assertEqual(side_house(posts, ropes, row) is None, place == 0)

    def told_place(self, web, row):
        """The place to which the reduced row leads along ties."""
        place = 0
        for sign in taken_out(row):
            if place is not None:
                goals = [goal for start, post, goal in web.ties if (start, post) == (place, sign)]
                goals += [start for start, post, goal in web.ties if (goal, post.upper()) == (place, sign)]
                place = goals[0] if goals else None
        return place

    def test_each_tie_lies_on_a_reduced_row_home(self):
        for posts, ropes in LOTS:
            ends = [place for start, _, goal in Web(posts, ropes).ties for place in (start, goal) if place]
            self.assertTrue(all(ends.count(place) > 1 for place in ends))

    def test_edges(self):
        for posts in range(1, 9):
            for ropes in ([], [""], ["aA", "", "aAaA"]):
                web = Web(posts, ropes)
                self.assertEqual((web.posts, web.ties, web.size), (posts, (), 1))
                self.assertEqual((web.has(""), web.has("aA"), web.has("a"), web.place_of("a")),
                                 (True, True, False, None))
        web = Web(8, ["abcdefgh", "h"])
        self.assertEqual((web.size, web.place_of("HGFED"), web.place_of("abc")), (7, 5, 5))
        self.assertEqual((WEB.size, WEB.place_of("ab"), WEB.place_of("bB"), WEB.place_of("BB")), (5, 4, 0, None))
        self.assertEqual(WEB.ties, (
            (0, "a", 1), (0, "b", 2), (1, "a", 3), (1, "b", 4), (2, "a", 4), (3, "b", 0)))

    def test_equal_if_the_same_is_tied(self):
        for one, other in [(["ab", "b"], ["a", "b"]), (["a", "bB"], ["A"]), (["aa", "aaa"], ["a"]), ([], ["bB"]),
                           (["aab", "abAB"], ["abAB", "BAA", "aab"]), (["ab", "ba"], ["ab", "baab"]),
                           (["aba", "b"], ["aba", "Bbb", "aabA"]), (["aa", "ab", "ba"], ["bA", "aa", "aba", "ab"])]:
            if all(Web(2, other).has(row) for row in one) and all(Web(2, one).has(row) for row in other):
                self.assertTrue(Web(2, one) == Web(2, other))
            else:
                self.assertTrue(Web(2, one) != Web(2, other))
        self.assertNotEqual(Web(2, ["a"]), Web(3, ["a"]))
        self.assertNotEqual(Web(2, ["a"]), Web(2, ["b"]))
        self.assertNotEqual(Web(2, []), Web(2, ["b"]))

    def test_great_webs(self):
        some = draws(62)
        for posts in (4, 8):
            ropes = [drawn_row(some, posts, 60) for _ in range(64)]
            web = Web(posts, ropes)
            self.assertTrue(all(web.has(rope) for rope in ropes))
            self.assertTrue(web.has(ropes[3] + turned(ropes[60]) + ropes[9]))
            self.assertFalse(web.has(ropes[5][:31]))
        web = Web(4, ["a" * many + "b" + "C" * (59 - many) for many in range(64)])
        self.assertTrue(web.has("a" * 40 + "b" + "C" * 19 + "c" * 12 + "B" + "A" * 47))


class TestKnots(unittest.TestCase):
    def assert_tied(self, posts, ropes, row):
        knot = tied(posts, ropes, row)
        self.assertIsInstance(knot, tuple)
        for number, back in knot:
            self.assertIn(number, range(len(ropes)))
            self.assertIs(type(number), int)
            self.assertIsInstance(back, bool)
        self.assertEqual(joined_knot(ropes, knot), taken_out(row))
        self.assertTrue(tied_holds(posts, ropes, row, knot))
        return knot

    def test_some_knot(self):
        some = draws(63)
        for posts, ropes in LOTS:
            for _ in range(6):
                told = [(some(len(ropes)), some(2) == 1) for _ in range(some(5))] if ropes else []
                self.assert_tied(posts, ropes, joined_knot(ropes, told))
                self.assert_tied(posts, ropes, "aA" + joined_knot(ropes, told))
            self.assertEqual(joined_knot(ropes, tied(posts, ropes, "")), "")
        self.assertIsNone(tied(2, ROPES, "a"))
        self.assertIsNone(tied(1, [], "a"))

    def test_great_lots_of_ropes(self):
        some = draws(64)
        for posts, length in ((4, 60), (4, 6), (2, 60), (2, 8), (1, 60), (3, 20)):
            ropes = [drawn_row(some, posts, 1 + some(length)) for _ in range(64)]
            for many in (1, 3, 5):
                told = [(some(64), some(2) == 1) for _ in range(many)]
                self.assertLess(len(self.assert_tied(posts, ropes, joined_knot(ropes, told))), 10 ** 4)
            knot = idle(posts, ropes)
            self.assertEqual(joined_knot(ropes, knot or ()), "")

    def test_long_knots(self):
        ropes = ["a" + "b" * 59, "b" + "c" * 59, "c" + "d" * 59, "d"]
        for row, many in (("d", 1), ("c", 60), ("b", 3541), (ropes[0], 1), (ropes[1], 1)):
            self.assertEqual(len(self.assert_tied(4, ropes, row)), many)
        self.assertIsNone(idle(4, ropes))
        # With so many ropes some knots have more than a million pairs; the others are to be told none the less.
        parts = ["a" * many + "b" + "A" * many for many in range(22)]
        ropes = [taken_out(one + other + other) for one, other in zip(parts, parts[1:])] + [parts[21]]
        for row, most in [(parts[21], 1), (parts[15], 127), (ropes[0], 1), (ropes[0] + turned(ropes[1]) + ropes[2], 3)]:
            self.assertLessEqual(len(self.assert_tied(2, ropes, row)), most)
        self.assertIsNone(idle(2, ropes))
        ropes += [parts[0], parts[0] + parts[1]]
        for row in (ropes[0] + turned(ropes[1]) + ropes[2], parts[0], parts[1], ropes[4] + parts[1]):
            self.assertLess(len(self.assert_tied(2, ropes, row)), 10 ** 4)
        self.assert_idle(2, ropes)

    def test_one_post(self):
        ropes = ["a" * 34, "A" * 55]
        for many in (1, 2, 21, -8):
            self.assert_tied(1, ropes, ("a" if many > 0 else "A") * abs(many))
        self.assertEqual(Web(1, ropes).size, 1)
        self.assertIsNone(tied(1, ["a" * 34, "A" * 52], "aaa"))
        self.assert_idle(1, ropes)

    def test_other_values_hold_no_knot(self):
        row = "aabbaBA"
        self.assertTrue(tied_holds(2, ROPES, row, ((1, False), (0, True))))
        self.assertTrue(tied_holds(2, ROPES, row, ((1, False), (0, True), (1, True), (1, False))))
        wrong = [((0, True), (1, False)), ((1, False),), ((1, 0), (0, 1)), ((1, False), (0, 1)),
                 [(1, False), (0, True)], ([1, False], [0, True]), ((1, False), (2, True)), ((1, False), (-2, True)),
                 ((True, False), (False, True)), ((1, False, 0), (0, True)), ((1,), (0,)), ((1, False), None),
                 (1, False), ((1, None), (0, True)), "ab", (("1", False), (0, True)), ((1, False), (0, True), ()),
                 ((0, True),) * 2]
        for value in wrong + list(NO_STRINGS):
            self.assertFalse(tied_holds(2, ROPES, row, value), value)
        for value in [value for value in NO_STRINGS if value != ()] + ["", ((0, False),)]:
            self.assertFalse(tied_holds(2, ROPES, "", value), value)
            self.assertFalse(tied_holds(2, [], "", value), value)
        self.assertTrue(tied_holds(2, ROPES, "aA", ()))
        self.assertTrue(tied_holds(2, ["aA"], "", ((0, False), (0, False), (0, True))))

    def test_holds_exactly_for_what_is_made(self):
        pairs = [(number, back) for number in (0, 1) for back in (False, True)]
        knots = [()] + [(one,) for one in pairs] + [(one, other) for one in pairs for other in pairs]
        for row in reduced_rows(2, 4):
            for knot in knots:
                told = joined_knot(["ab", "b"], knot) == row
                self.assertEqual(tied_holds(2, ["ab", "b"], row, knot), told)

    def assert_idle(self, posts, ropes):
        knot = idle(posts, ropes)
        self.assertTrue(knot)
        self.assertEqual(joined_knot(ropes, knot), "")
        self.assertTrue(tied_holds(posts, ropes, "", knot))
        for one, other in zip(knot, knot[1:]):
            self.assertNotEqual(one, (other[0], not other[1]))

    def test_idle_knots(self):
        for posts, ropes in LOTS:
            free = is_free(posts, ropes)
            if free:
                self.assertIsNone(idle(posts, ropes))
            else:
                self.assert_idle(posts, ropes)
            self.assertEqual(free, rank(Web(posts, ropes)) == len(ropes))
        for ropes in (["a", "a"], ["a", "A"], ["a", "aa"], ["aA"], ["b", ""], ["ab", "b", "a"], ["abAB", "ab", "ba"],
                      ["aa", "abA", "bb", "aabbAA", "b"]):
            self.assertFalse(is_free(2, ropes))
            self.assert_idle(2, ropes)
        for ropes in ([], ["a"], ["a", "b"], ROPES, ["aa", "bb", "ab"], ["ab", "ba"], ["b", "abA", "aabAA"]):
            self.assertTrue(is_free(2, ropes))
            self.assertIsNone(idle(2, ropes))

    def test_no_short_knot_of_free_ropes_is_idle(self):
        pairs = [(number, back) for number in range(3) for back in (False, True)]
        for ropes in (["ab", "ba", "aa"], ["b", "abA", "aaba"], ["aab", "abb", "bbb"]):
            self.assertTrue(is_free(2, ropes))
            knots = [(pair,) for pair in pairs]
            for _ in range(4):
                for knot in knots:
                    self.assertNotEqual(joined_knot(ropes, knot), "")
                knots = [knot + (pair,) for knot in knots for pair in pairs if pair != (knot[-1][0], not knot[-1][1])]


class TestBase(unittest.TestCase):
    def test_rank_and_base(self):
        for posts, ropes in LOTS:
            web = Web(posts, ropes)
            self.assertEqual(rank(web), len(web.ties) - web.size + 1)
            ways = self.told_ways(web)
            if len(ways) == web.size:
                rows = [taken_out(ways[start] + post + turned(ways[goal])) for start, post, goal in web.ties]
                self.assertEqual(base(web), tuple(row for row in rows if row))
            self.assertEqual(len(base(web)), rank(web))
            self.assertEqual(Web(posts, base(web)), web)
            self.assertTrue(is_free(posts, base(web)))
        self.assertEqual((rank(Web(3, [])), base(Web(3, []))), (0, ()))
        self.assertEqual((rank(WEB), base(WEB), base(EVENS)), (2, ("aab", "baBA"), ("b", "aa", "abA")))

    def told_ways(self, web):
        """The least rows to places, by trying all short ones."""
        ways = {}
        for row in reduced_rows(web.posts, 5 if web.posts < 4 else 3):
            if web.place_of(row) is not None:
                ways.setdefault(web.place_of(row), row)
        return ways


class TestSideHouses(unittest.TestCase):
    def assert_side_house(self, posts, ropes, row):
        house = side_house(posts, ropes, row)
        self.assertIsInstance(house, House)
        self.assertEqual(house.posts, posts)
        self.assertEqual([told_goal(house, 0, rope) for rope in ropes], [0] * len(ropes))
        self.assertNotEqual(told_goal(house, 0, row), 0)
        self.assertTrue(side_holds(posts, ropes, row, house))

    def test_some_side_house(self):
        for posts, ropes in LOTS:
            for row in all_rows(min(posts, 2), 3) + ["abaB" * 3] * (posts > 1):
                if Web(posts, ropes).has(row):
                    self.assertIsNone(side_house(posts, ropes, row))
                else:
                    self.assert_side_house(posts, ropes, row)

    def test_great_ones(self):
        some = draws(65)
        ropes = [drawn_row(some, 4, 60) for _ in range(64)]
        self.assert_side_house(4, ropes, ropes[7][:40] + drawn_row(some, 4, 260))
        self.assert_side_house(4, [], drawn_row(some, 4, 300))
        self.assert_side_house(4, ["a" * 60], "a" * 59)
        self.assertIsNone(side_house(4, ropes, ropes[7] + turned(ropes[8])))

    def test_holds_exactly_for_side_houses(self):
        for row in ("a", "b", "ab", "abAB", "", "aA", "bab"):
            for ropes in ([], ["aa"], ["b", "aab"], ["", "aB"]):
                for house in all_houses(2, 3)[::2] + all_houses(2, 2) + [House([[0], [0]])]:
                    told = told_goal(house, 0, row) != 0 and all(told_goal(house, 0, rope) == 0 for rope in ropes)
                    self.assertEqual(side_holds(2, ropes, row, house), told)

    def test_other_values_are_no_side_houses(self):
        house = House([[1, 0], [0, 1]])
        self.assertTrue(side_holds(2, ["b"], "a", house))
        wrong = [House([[1, 0]]), House([[1, 0], [0, 1], [0, 1]]), (house, 0), [house], house.swaps, str(house),
                 (house,)]
        for value in wrong + [value for value in NO_STRINGS if value is not HOUSE]:
            self.assertFalse(side_holds(2, ["b"], "a", value), value)
        self.assertFalse(side_holds(2, ["b"], "b", house))
        self.assertFalse(side_holds(2, ["b", "a"], "aba", house))

    def test_never_both(self):
        houses = all_houses(2, 3)
        for row in reduced_rows(2, 3):
            if tied(2, ["aab", "bA"], row) is not None:
                self.assertFalse(any(side_holds(2, ["aab", "bA"], row, house) for house in houses))


class TestOrder(unittest.TestCase):
    def test_places_are_numbered_by_least_rows(self):
        for posts, ropes in [lot for lot in LOTS if lot[0] < 4]:
            web = Web(posts, ropes)
            firsts = {}
            for row in reduced_rows(posts, 4):
                if web.place_of(row) is not None:
                    firsts.setdefault(web.place_of(row), row)
            told = [firsts[place] for place in sorted(firsts)]
            self.assertEqual(told, sorted(told, key=order))


if __name__ == "__main__":
    unittest.main()
