"""Houses of swaps, and houses that part rows ([15] to [18])."""

import unittest

from ropesheld.errors import InvalidHouse, InvalidRow, InvalidText
from ropesheld.houses import (
    House, beside, is_still, led_to, orbits, paired, stilled, swap_of, swap_order, swap_rounds)
from ropesheld.parting import parting, parting_holds
from tests.support import (
    HOUSE, NO_STRINGS, all_houses, all_rows, draws, drawn_house, drawn_row, reduced_rows, taken_out,
    told_goal, turned)

HOUSES = all_houses(2, 3) + all_houses(1, 4) + all_houses(3, 2) + [House([[0]])]


class TestHouse(unittest.TestCase):
    def test_attributes(self):
        house = House([[1, 2, 0], (0, 2, 1)])
        self.assertEqual((house.swaps, house.posts, house.things), (((1, 2, 0), (0, 2, 1)), 2, 3))
        house = House([[0]])
        self.assertEqual((house.swaps, house.posts, house.things), (((0,),), 1, 1))
        house = House(((1, 0),) * 8)
        self.assertEqual((house.posts, house.things), (8, 2))
        self.assertEqual(House([list(range(500))]).things, 500)

    def test_equal_if_swaps_are(self):
        self.assertEqual(House([[1, 0]]), House(((1, 0),)))
        self.assertNotEqual(House([[1, 0]]), House([[0, 1]]))
        self.assertNotEqual(House([[0]]), House([[0], [0]]))
        self.assertTrue(all((one == other) == (one.swaps == other.swaps) for one in HOUSES for other in HOUSES))

    def assert_no_house(self, swaps, at):
        with self.assertRaises(InvalidHouse) as caught:
            House(swaps)
        self.assertEqual((caught.exception.at, type(caught.exception.at)), (at, int), swaps)

    def test_no_such_sequence(self):
        for value in list(NO_STRINGS) + ["", "1 0", "0", {0: [0]}, {0}, b"0", range(2), [[0]] * 9, [[0]] * 8 + [5],
                [[]], [[], []]]:
            if value not in ([[0]], ((0,),)):
                self.assert_no_house(value, 0)

    def test_first_thing_that_is_no_swap(self):
        wrong = [[1], [0, 2], [0, 0], [1, 1], [-1, 0], [0, 1, 2], [], [0], None, 0, "01", "10", [True, False],
            [False, 1],
                 [0, True], [0, None], [[0], 1], [0, "1"], {0: 1, 1: 0}, {0, 1}, HOUSE, (0, (1,)), [0, 1.0],
                 b"\x00\x01"]
        for value in wrong:
            if value not in ([1], [0, 1, 2], [0], []):
                self.assert_no_house([value], 0)
                self.assert_no_house([value, [0, 1]], 0)
            self.assert_no_house([[1, 0], value], 1)
            self.assert_no_house(([1, 0], (0, 1), value), 2)
            self.assert_no_house([[1, 0]] * 7 + [value], 7)
            self.assert_no_house([[1, 0], value, value, None], 1)
        self.assert_no_house([[0, 1, 2], [0, 1]], 1)
        self.assert_no_house([[0], [0, 1]], 1)
        self.assert_no_house([[0], []], 1)

    def test_text(self):
        for house in HOUSES:
            self.assertEqual(str(house), " | ".join(" ".join(str(x) for x in swap) for swap in house.swaps))
            self.assertEqual(House.read(str(house)), house)
        house = drawn_house(draws(21), 8, 100)
        self.assertEqual(House.read(str(house)), house)
        self.assertEqual(str(House([[0]])), "0")

    def assert_no_text(self, text, at):
        with self.assertRaises(InvalidText) as caught:
            House.read(text)
        self.assertEqual((caught.exception.at, type(caught.exception.at)), (at, int), text)

    def test_no_text(self):
        for value in NO_STRINGS:
            self.assert_no_text(value, 0)
        wrong = ["", " ", "00", "01", "1  0", " 0", "0 ", "-1", "+0", "1000", "0000", "a", "0,1", "0|0", "0 |0",
            "0 1\n", "\u0660",
                 "\u00b2", "0\t1", "1_0", "0x0", "1.0", "| 0"]
        for part in wrong:
            self.assert_no_text(part, 0)
            self.assert_no_text(part + " | 0 1", 0)
            self.assert_no_text("1 0 | 0 1 | " + part, 2)
            self.assert_no_text("1 0 | " + part + " | x", 1)
        self.assert_no_text("0 | 0 | | 0", 2)
        self.assert_no_text("0 |", 0)
        self.assert_no_text("5 5 | x", 1)

    def test_text_of_no_house(self):
        for text, at in [("1", 0), ("0 | 1", 1), ("0 1 | 0", 1), ("0 0", 0), ("1 0 | 0 2", 1), ("999", 0),
                (" | ".join(["0"] * 9), 0),
                         ("0 1 | 1 0 | 1 1", 2), ("0 1 | 100 0", 1)]:
            with self.assertRaises(InvalidHouse) as caught:
                House.read(text)
            self.assertEqual(caught.exception.at, at, text)


class TestLeading(unittest.TestCase):
    def test_sign_by_sign(self):
        for house in HOUSES:
            for row in all_rows(house.posts, 3):
                goals = [told_goal(house, thing, row) for thing in range(house.things)]
                self.assertEqual([led_to(house, thing, row) for thing in range(house.things)], goals)
                self.assertEqual(swap_of(house, row), tuple(goals))
                self.assertEqual(is_still(house, row), goals == list(range(house.things)))

    def test_alike_rows_lead_alike(self):
        for house in all_houses(2, 3):
            for row in ("aAb", "abBA", "bBaAb"):
                self.assertEqual(swap_of(house, row), swap_of(house, taken_out(row)))

    def test_rounds(self):
        drawn = draws(22)
        for house in HOUSES + [drawn_house(drawn, 2, 30)]:
            for row in all_rows(house.posts, 2):
                swap = swap_of(house, row)
                found = swap_rounds(house, row)
                self.assertEqual(sorted(thing for places in found for thing in places), list(range(house.things)))
                self.assertEqual(sorted(found), list(found))
                for places in found:
                    self.assertEqual(min(places), places[0])
                    self.assertEqual([swap[thing] for thing in places], list(places[1:] + places[:1]))
        self.assertEqual(swap_rounds(House([[0, 1]]), ""), ((0,), (1,)))

    def test_order(self):
        for house in HOUSES:
            for row in all_rows(house.posts, 2):
                times = [many for many in range(1, 13) if is_still(house, row * many)]
                self.assertEqual(swap_order(house, row), times[0])
        swap = [1, 0, 3, 4, 2, 6, 7, 8, 9, 5, 11, 12, 13, 14, 15, 16, 10]
        self.assertEqual(swap_order(House([swap]), "a"), 2 * 3 * 5 * 7)

    def test_orbits(self):
        drawn = draws(23)
        for house in HOUSES + [drawn_house(drawn, 1, 40), House([[1, 0, 2, 3, 5, 4], [0, 1, 2, 4, 3, 5]])]:
            lots = {}
            for thing in range(house.things):
                met = {thing}
                for _ in range(house.things):
                    met |= {swap[place] for swap in house.swaps for place in met}
                    met |= {swap.index(place) for swap in house.swaps for place in met}
                lots[tuple(sorted(met))] = True
            self.assertEqual(orbits(house), tuple(sorted(lots)))

    def test_beside(self):
        for one in all_houses(1, 3) + [House([[0]])]:
            for other in all_houses(1, 2):
                house = beside(one, other)
                for row in ("", "a", "A", "aa"):
                    goals = swap_of(one, row) + tuple(one.things + goal for goal in swap_of(other, row))
                    self.assertEqual(swap_of(house, row), goals)
        self.assertEqual(beside(House([[1, 0], [0, 1]]), House([[0], [0]])).swaps, ((1, 0, 2), (0, 1, 2)))

    def test_paired(self):
        for one in all_houses(2, 3)[::5]:
            for other in all_houses(2, 2):
                house = paired(one, other)
                for row in ("", "a", "B", "ab", "bA"):
                    goals = [led_to(one, x, row) * 2 + led_to(other, y, row) for x in range(3) for y in range(2)]
                    self.assertEqual(swap_of(house, row), tuple(goals))

    def test_stilled(self):
        for house in all_houses(2, 3):
            self.assertEqual(stilled(house, ""), house)
            self.assertEqual(stilled(house, "a").swaps, ((0, 1, 2), house.swaps[1]))
            self.assertEqual(stilled(house, "b").swaps, (house.swaps[0], (0, 1, 2)))
            self.assertEqual(stilled(house, "ab").swaps, ((0, 1, 2),) * 2)


class TestParting(unittest.TestCase):
    def assert_parted(self, posts, one, other):
        value = parting(posts, one, other)
        left = taken_out(one + turned(other))
        if left == "":
            self.assertIsNone(value)
            return
        house, thing = value
        self.assertIsInstance(value, tuple)
        self.assertEqual(house.posts, posts)
        self.assertLessEqual(house.things, len(left) + 1)
        self.assertIn(thing, range(house.things))
        self.assertNotEqual(told_goal(house, thing, one), told_goal(house, thing, other))
        self.assertTrue(parting_holds(one, other, value))
        self.assertTrue(parting_holds(other, one, value))

    def test_some_pair(self):
        rows = all_rows(2, 3)
        for one in rows:
            for other in rows:
                self.assert_parted(2, one, other)
        for posts in (1, 3, 8):
            for row in all_rows(1, 4):
                self.assert_parted(posts, row, "")
                self.assert_parted(posts, "", row)
                self.assert_parted(posts, row, "a")
        for row in reduced_rows(3, 4)[::7]:
            self.assert_parted(8, row, "h")

    def test_long_rows(self):
        drawn = draws(24)
        for posts in (1, 2, 8):
            one, other = drawn_row(drawn, posts, 300), drawn_row(drawn, posts, 300)
            self.assert_parted(posts, one, other)
            self.assert_parted(posts, one, one[:150] + "aA" + one[150:])

    def test_houses_part_unlike_rows_alone(self):
        rows = all_rows(2, 2)
        for house in all_houses(2, 3):
            for one in rows:
                for other in rows:
                    parted = [thing for thing in range(3) if told_goal(house, thing, one) != told_goal(house, thing,
                        other)]
                    for thing in range(3):
                        self.assertEqual(parting_holds(one, other, (house, thing)), thing in parted)
                    if taken_out(one) == taken_out(other):
                        self.assertEqual(parted, [])

    def test_other_values_do_not_hold(self):
        self.assertTrue(parting_holds("a", "b", (HOUSE, 0)))
        wrong = [HOUSE, (HOUSE,), [HOUSE, 0], (HOUSE, 0, 0), (0, HOUSE), (HOUSE, 3), (HOUSE, -1), (HOUSE, False),
            (HOUSE, True),
                 (HOUSE, None), (HOUSE, "0"), (HOUSE, (0,)), (HOUSE.swaps, 0), (str(HOUSE), 0), (HOUSE, HOUSE), "ab",
                 ("a", 0)]
        for value in wrong + [value for value in NO_STRINGS if value != (HOUSE, 0)]:
            self.assertFalse(parting_holds("a", "b", value), value)

    def test_posts_of_both_rows(self):
        self.assertTrue(parting_holds("a", "", (House([[1, 0]]), 0)))
        self.assertFalse(parting_holds("a", "b", (House([[1, 0]]), 0)))
        self.assertFalse(parting_holds("abB", "", (House([[1, 0]]), 0)))
        self.assertFalse(parting_holds("", "aH", (House([[1, 0]] * 7), 0)))
        self.assertTrue(parting_holds("a", "", (House([[1, 0]] * 8), 1)))

    def test_wrong_rows_come_first(self):
        for one, other, at in (("i", None, 0), ("ab?", "", 2), ("", "a!", 1)):
            with self.assertRaises(InvalidRow) as caught:
                parting_holds(one, other, None)
            self.assertEqual(caught.exception.at, at)


if __name__ == "__main__":
    unittest.main()
