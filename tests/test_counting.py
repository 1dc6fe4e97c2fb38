"""How many rows there are, how many fall, and how many are tied or come home ([67] to [70])."""

import unittest

from ropesheld.counting import many_classes, many_roots, many_round, many_rows, number_of, row_at
from ropesheld.errors import InvalidRow
from ropesheld.fallcounts import falling_at, falling_number, many_falling
from ropesheld.houses import House
from ropesheld.sides import all_sides, sides
from ropesheld.webcounts import home_at, many_home, many_within, within_at
from ropesheld.webs import Web
from tests.support import (
    EVENS, HOUSE, NO_STRINGS, SIGNS, WEB, all_houses, all_lots, draws, drawn_house, drawn_row, is_plain, order,
    taken_out, told_goal)


def rows_of(posts, length):
    """All reduced rows of just so many signs, in order."""
    found = [""]
    for _ in range(length):
        found = [row + sign for row in found for sign in SIGNS[:2 * posts] if row[-1:] != sign.swapcase()]
    return found


def is_round(row):
    """Whether a reduced row is its own core."""
    return row == "" or row[0] != row[-1].swapcase()


def turns_of(row):
    """All turns of a round row."""
    return {row[at:] + row[:at] for at in range(max(len(row), 1))}


SIZES = [(posts, length) for posts, lengths in ((1, 9), (2, 7), (3, 5), (4, 4), (8, 3)) for length in range(lengths)]


class TestCounting(unittest.TestCase):
    def test_all_rows_in_order(self):
        for posts, length in SIZES:
            rows = rows_of(posts, length)
            self.assertEqual(rows, sorted(rows, key=order))
            self.assertTrue(all(is_plain(row) for row in rows))
            self.assertEqual(many_rows(posts, length), len(rows))
            for number, row in list(enumerate(rows))[::max(1, len(rows) // 60)]:
                self.assertEqual((row_at(posts, length, number), number_of(posts, row)), (row, number))
            self.assertEqual(row_at(posts, length, len(rows) - 1), rows[-1])
            for number in (len(rows), len(rows) + 1, 10 ** 80):
                self.assertIsNone(row_at(posts, length, number))

    def test_far_rows_there_and_back(self):
        some = draws(671)
        for posts in (1, 2, 5, 8):
            self.assertEqual(many_rows(posts, 60), 2 * posts * (2 * posts - 1) ** 59)
            for length in (59, 60):
                whole = many_rows(posts, length)
                for number in (0, whole - 1, whole // 2, some(10 ** 9) % whole, whole * some(1000) // 1000):
                    row = row_at(posts, length, number)
                    self.assertTrue(is_plain(row) and len(row) == length)
                    self.assertEqual(number_of(posts, row), number)
                row = taken_out(drawn_row(some, posts, length) + "a")
                self.assertEqual(row_at(posts, len(row), number_of(posts, row)), row)
        self.assertEqual((row_at(8, 60, 0), row_at(8, 60, many_rows(8, 60) - 1)), ("a" * 60, "H" * 60))

    def test_round_rows(self):
        for posts, length in SIZES:
            rows = [row for row in rows_of(posts, length) if is_round(row)]
            self.assertEqual(many_round(posts, length), len(rows))
            if length:
                classes = {min(turns_of(row)) for row in rows}
                self.assertEqual(many_classes(posts, length), len(classes))
                self.assertEqual(many_roots(posts, length), sum(len(turns_of(row)) == length for row in classes))

    def test_far_classes(self):
        for posts in (1, 2, 3, 8):
            for length in (12, 30, 59, 60):
                parts = [part for part in range(1, length + 1) if length % part == 0]
                self.assertEqual(many_round(posts, length), sum(part * many_roots(posts, part) for part in parts))
                self.assertEqual(many_classes(posts, length), sum(many_roots(posts, part) for part in parts))
        self.assertEqual([many_roots(1, length) for length in range(1, 7)], [2, 0, 0, 0, 0, 0])

    def test_wrong_rows(self):
        for value, at in [(value, 0) for value in NO_STRINGS] + [("abc", 2), ("?", 0), ("ab ", 2)]:
            for called in (lambda: number_of(2, value), lambda: falling_number(2, "a", value)):
                with self.assertRaises(InvalidRow) as caught:
                    called()
                self.assertEqual(caught.exception.at, at)


class TestFalling(unittest.TestCase):
    def test_all_rows_that_fall(self):
        for posts, lengths in ((1, 7), (2, 7), (3, 5), (4, 4)):
            for lot in all_lots(posts):
                for length in range(lengths):
                    rows = [row for row in rows_of(posts, length)
                            if taken_out("".join(sign for sign in row if sign.lower() not in lot)) == ""]
                    self.assertEqual(many_falling(posts, lot, length), len(rows), (posts, lot, length))
                    for number, row in list(enumerate(rows))[::max(1, len(rows) // 25)]:
                        self.assertEqual(falling_at(posts, lot, length, number), row)
                        self.assertEqual(falling_number(posts, lot, row), number)
                    for number in (len(rows), len(rows) + 5, 10 ** 70):
                        self.assertIsNone(falling_at(posts, lot, length, number))

    def test_no_post_and_all_posts(self):
        for posts in (1, 2, 8):
            everything = "abcdefgh"[:posts]
            for length in (0, 1, 2, 30, 60):
                self.assertEqual(many_falling(posts, "", length), 0 if length else 1)
                self.assertEqual(falling_at(posts, "", length, 0), None if length else "")
                self.assertEqual(many_falling(posts, everything, length), many_rows(posts, length))
            row = row_at(posts, 60, many_rows(posts, 60) // 3)
            self.assertEqual(falling_number(posts, everything, row), number_of(posts, row))
        self.assertEqual(falling_number(3, "", ""), 0)

    def test_far_rows_there_and_back(self):
        some = draws(691)
        for posts, lot in ((2, "a"), (2, "b"), (8, "cf"), (8, "abcdefg"), (5, "bd"), (3, "ac")):
            for length in (24, 59, 60):
                whole = many_falling(posts, lot, length)
                rows = []
                for number in sorted({0, whole // 7, whole * some(1000) // 1000, whole - 1}):
                    row = falling_at(posts, lot, length, number)
                    self.assertTrue(is_plain(row) and len(row) == length)
                    self.assertEqual(taken_out("".join(sign for sign in row if sign.lower() not in lot)), "")
                    self.assertEqual(falling_number(posts, lot, row), number)
                    rows.append(row)
                self.assertEqual(rows, sorted(rows, key=order))
                self.assertIsNone(falling_at(posts, lot, length, whole))


class TestWebCounts(unittest.TestCase):
    def test_all_rows_that_are_tied(self):
        webs = [WEB, EVENS, Web(2, []), Web(1, ["aaa"]), Web(3, ["abc", "ba", "cc"]), Web(2, ["a", "b"]), Web(1, []),
                Web(2, ["abAB"]), Web(4, ["ab", "cd"]), Web(2, ["aa", "bb", "abab"]), Web(2, ["baB"])]
        for web in webs:
            for length in range({1: 9, 2: 8, 3: 5, 4: 5}[web.posts]):
                rows = [row for row in rows_of(web.posts, length) if web.has(row)]
                self.assertEqual(many_within(web, length), len(rows))
                self.assertEqual([within_at(web, length, n) for n in range(min(len(rows), 40))], rows[:40])
                for number in (len(rows), len(rows) + 1, 10 ** 70):
                    self.assertIsNone(within_at(web, length, number))
                if rows:
                    self.assertEqual(within_at(web, length, len(rows) - 1), rows[-1])

    def test_all_rows_that_come_home(self):
        some = draws(701)
        houses = all_houses(2, 2) + all_houses(2, 3)[::7] + all_houses(1, 4)[::5] + [HOUSE, House([[0]])]
        houses += [drawn_house(some, 3, 5), drawn_house(some, 2, 6)]
        for house in houses:
            for thing in range(house.things):
                for length in range(6 if house.posts < 3 else 4):
                    rows = [row for row in rows_of(house.posts, length) if told_goal(house, thing, row) == thing]
                    self.assertEqual(many_home(house, thing, length), len(rows))
                    for number, row in list(enumerate(rows))[::max(1, len(rows) // 9)]:
                        self.assertEqual(home_at(house, thing, length, number), row)
                    self.assertIsNone(home_at(house, thing, length, len(rows)))

    def test_sides_are_things(self):
        for web in (EVENS, Web(2, ["a", "b"]), Web(2, ["aa", "b", "abA"]), Web(2, ["aaa", "abAA", "ba", "aab"]),
                    Web(1, ["aaaa"]), Web(2, ["aa", "bb", "ab"])):
            if sides(web) is not None:
                places = {row: web.place_of(row) for row in all_sides(web)}
                house = House([[web.place_of(row + post) for row in places] for post in "ab"[:web.posts]])
                for length in (0, 1, 2, 5, 13, 60):
                    whole = many_within(web, length)
                    self.assertEqual(whole, many_home(house, 0, length))
                    for number in (0, whole // 3, whole - 1):
                        if 0 <= number < whole:
                            self.assertEqual(within_at(web, length, number), home_at(house, 0, length, number))
        self.assertEqual(sides(EVENS), 2)

    def test_sums_over_things_and_over_rows(self):
        some = draws(702)
        for posts, things in ((2, 3), (2, 5), (3, 4), (1, 6)):
            house = drawn_house(some, posts, things)
            for length in range(5):
                rows = rows_of(posts, length)
                told = sum(told_goal(house, thing, row) == thing for row in rows for thing in range(things))
                self.assertEqual(sum(many_home(house, thing, length) for thing in range(things)), told)

    def test_far_rows(self):
        some = draws(703)
        for web in (WEB, EVENS, Web(4, [drawn_row(some, 4, 60) for _ in range(64)] + ["abcdDdabcd", "abABcdCD"]),
                    Web(8, list("abcdefgh"))):
            for length in (20, 60):
                whole = many_within(web, length)
                rows = [within_at(web, length, number) for number in sorted({0, whole // 5, whole // 2, whole - 1})
                        if 0 <= number < whole]
                self.assertEqual(rows, sorted(rows, key=order))
                for row in rows:
                    self.assertTrue(web.has(row) and is_plain(row) and len(row) == length)
                self.assertIsNone(within_at(web, length, whole))
        for posts, things in ((8, 100), (2, 100), (8, 1)):
            house = drawn_house(some, posts, things)
            for length in (59, 60):
                whole = many_home(house, 0, length)
                rows = [home_at(house, 0, length, number) for number in (0, whole // 2, whole - 1)]
                self.assertEqual(rows, sorted(rows, key=order))
                for row in rows:
                    self.assertEqual((told_goal(house, 0, row), is_plain(row), len(row)), (0, True, length))
                self.assertIsNone(home_at(house, 0, length, whole))
            if things == 1:
                self.assertEqual(whole, many_rows(8, 60))
        self.assertEqual(many_within(Web(8, list("abcdefgh")), 60), many_rows(8, 60))


if __name__ == "__main__":
    unittest.main()
