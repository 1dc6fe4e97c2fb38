"""Maps of all ropes ([40])."""

import unittest
from itertools import product

from ropesheld.errors import InvalidText
from ropesheld.maps import Map, led_after, plain_map, table, turning_map
from tests.support import NO_STRINGS, SLIDE, all_rows, draws, drawn_row, reduced_rows, taken_out, turned

drawn = draws(81)
MAPS = [Map(2, rows) for rows in product(reduced_rows(2, 2)[::2], repeat=2)]
MAPS += [Map(2, [drawn_row(drawn, 2, drawn(6)) for _ in range(2)]) for _ in range(20)]


def told_led(rows, row):
    """The reduced row that comes if for each sign the row of its post stands."""
    parts = [rows["abcdefgh".index(sign.lower())] for sign in row]
    return taken_out("".join(part if sign.islower() else turned(part) for part, sign in zip(parts, row)))


class TestMap(unittest.TestCase):
    def test_attributes(self):
        one = Map(2, ["aAb", ("bB")])
        self.assertEqual((one.posts, one.rows), (2, ("b", "")))
        self.assertEqual((Map(1, ["aaa"]).rows, Map(8, list("abcdefgH")).rows), (("aaa",), tuple("abcdefgH")))
        self.assertEqual(len(Map(8, ["abcdefghABCD"] * 8).rows[7]), 12)

    def test_led(self):
        for one in MAPS:
            for row in all_rows(2, 3):
                self.assertEqual(one.led(row), told_led(one.rows, row))
        some = draws(82)
        one = Map(8, [drawn_row(some, 8, 12) for _ in range(8)])
        row = drawn_row(some, 8, 300)
        self.assertEqual(one.led(row), told_led(one.rows, row))
        self.assertEqual(Map(2, ["", ""]).led("abAAB"), "")

    def test_led_after(self):
        for one in MAPS[::3]:
            for other in MAPS[::5]:
                both = led_after(one, other)
                self.assertEqual(both, Map(2, [told_led(one.rows, row) for row in other.rows]))
                for row in ("a", "bA", "abAB", "aab"):
                    self.assertEqual(both.led(row), one.led(other.led(row)))
        self.assertEqual(str(led_after(Map(2, ["ab", "b"]), Map(2, ["b", "a"]))), "b,ab")
        self.assertEqual(str(led_after(Map(2, ["b", "a"]), Map(2, ["ab", "b"]))), "ba,a")

    def test_plain_and_turning_maps(self):
        for posts in range(1, 9):
            self.assertEqual(plain_map(posts).rows, tuple("abcdefgh"[:posts]))
            self.assertEqual(turning_map(posts, ""), plain_map(posts))
            self.assertEqual(turning_map(posts, "aA"), plain_map(posts))
            self.assertEqual(turning_map(posts, "a").led("A"), "A")
        for turning in all_rows(2, 3):
            for row in ("a", "b", "abA", "Bba", ""):
                self.assertEqual(turning_map(2, turning).led(row), taken_out(turning + row + turned(turning)))
        self.assertEqual(turning_map(2, "ab").rows, ("abaBA", "abA"))
        for one in MAPS:
            self.assertEqual(led_after(one, plain_map(2)), one)
            self.assertEqual(led_after(plain_map(2), one), one)

    def test_equal_if_posts_and_rows_are(self):
        self.assertEqual(Map(2, ["aAb", "b"]), Map(2, ("b", "aAb")))
        self.assertNotEqual(Map(2, ["a", "b"]), Map(2, ["b", "a"]))
        self.assertNotEqual(Map(1, ["a"]), Map(2, ["a", "b"]))
        self.assertTrue(all((one == other) == (one.rows == other.rows) for one in MAPS for other in MAPS))

    def test_table(self):
        for one in MAPS:
            self.assertEqual(table(one), tuple(
                tuple(row.count(post) - row.count(post.upper()) for post in "ab") for row in one.rows))
        self.assertEqual(table(Map(3, ["", "cC", "AbbC"])), ((0, 0, 0), (0, 0, 0), (-1, 2, -1)))
        self.assertEqual(table(SLIDE), ((1, 1), (0, 1)))


class TestText(unittest.TestCase):
    def test_text(self):
        for one in MAPS + [Map(1, [""]), Map(8, ["", *"abcdefg"]), plain_map(8)]:
            self.assertEqual(str(one), ",".join(row or "-" for row in one.rows))
            self.assertEqual(Map.read(one.posts, str(one)), one)
        self.assertEqual(str(Map(2, ["ab", ""])), "ab,-")

    def test_rows_need_not_be_reduced(self):
        self.assertEqual(Map.read(2, "aAb,bB"), Map(2, ["b", ""]))
        self.assertEqual(Map.read(1, "aAaA"), Map.read(1, "-"))
        self.assertEqual(len(Map.read(2, "ab" * 700 + "," + "Ba" * 700).rows[1]), 1400)

    def test_no_text(self):
        wrong = ["", "a", "a,", ",b", ",", "a,b,", "a,b,a", "a,c", "a,-b", "a,--", "a, b", " a,b", "a,b ", "a;b",
                 "a,b\n", "a,B?", "-", "a b", "a,\u00e4", "A,i", "a,1"]
        for value in [*NO_STRINGS, *wrong, ("a", "b"), ["a", "b"]]:
            with self.assertRaises(InvalidText) as caught:
                Map.read(2, value)
            self.assertEqual((caught.exception.at, type(caught.exception.at)), (0, int), value)
        for posts, text in [(1, ""), (1, "b"), (1, "a,a"), (3, "a,b"), (8, "a,b,c,d,e,f,g")]:
            with self.assertRaises(InvalidText):
                Map.read(posts, text)


if __name__ == "__main__":
    unittest.main()
