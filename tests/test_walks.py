"""Walks and pushes ([10] to [14])."""

import unittest

from ropesheld.pushes import alike_walks, push_chain, push_chain_holds
from ropesheld.rows import alike, reduced
from ropesheld.walks import back, crossing_row, end, land, meetings, plain_walk, points, walk_of
from tests.support import NO_STRINGS, SIGNS, all_rows, all_walks, draws, drawn_row, drawn_walk, taken_out

STEPS = {"n": (0, 1), "e": (1, 0), "s": (0, -1), "w": (-1, 0)}


def told_points(walk):
    """All points of a walk, by the words of the document."""
    found = [(0, 1)]
    for step in walk:
        found.append((found[-1][0] + STEPS[step][0], found[-1][1] + STEPS[step][1]))
    return tuple(found)


def told_row(walk, posts):
    """The crossing row of a walk, by the words of the document."""
    row = ""
    for step, (x, y), (u, v) in zip(walk, told_points(walk), told_points(walk)[1:]):
        for post in range(posts):
            if y == v and y <= 0 and sorted([x, u]) == [post, post + 1]:
                row += SIGNS[2 * post] if step == "e" else SIGNS[2 * post + 1]
    return row


def pushes(walk, posts):
    """All walks to which one push leads a walk."""
    found = {walk[:at] + two + walk[at:] for at in range(len(walk) + 1) for two in ("ns", "ew", "sn", "we")}
    found |= {walk[:at] + walk[at + 2:] for at in range(len(walk) - 1) if walk[at:at + 2] in ("ns", "ew", "sn", "we")}
    for at in range(len(walk) - 1):
        one, other = walk[at:at + 2]
        if (one in "ns") != (other in "ns"):
            square = told_points(walk)[at:at + 3]
            post = (min(x for x, y in square), min(y for x, y in square))
            if not (post[1] == 0 and post[0] in range(posts)):
                found.add(walk[:at] + other + one + walk[at + 2:])
    return found


class TestWalks(unittest.TestCase):
    def test_points(self):
        for walk in all_walks(5):
            self.assertEqual(points(walk), told_points(walk))
            self.assertEqual(end(walk), points(walk)[-1])
            self.assertEqual(end(walk + back(walk)), (0, 1))
            self.assertEqual(points(walk + back(walk))[len(walk):], points(walk)[::-1])
        self.assertEqual((points(""), end(""), back("")), (((0, 1),), (0, 1), ""))

    def test_meetings(self):
        for walk in all_walks(5):
            found = points(walk)
            pairs = [(i, j) for i in range(len(found)) for j in range(i + 1, len(found)) if found[i] == found[j]]
            self.assertEqual(meetings(walk), tuple(pairs))
        self.assertEqual(len(meetings("ns" * 150)), 151 * 150 // 2 + 150 * 149 // 2)

    def test_land(self):
        for walk in all_walks(5):
            ring = points(walk) + ((0, 1),)
            self.assertEqual(land(walk), sum(x * v - u * y for (x, y), (u, v) in zip(ring, ring[1:])))
        self.assertEqual((land(""), land("senw"), land("eswn"), land("e"), land("se")), (0, 2, -2, 0, 1))

    def test_crossing_row(self):
        for posts in (1, 2, 3):
            for walk in all_walks(6):
                self.assertEqual(crossing_row(walk, posts), told_row(walk, posts))
        drawn = draws(11)
        for posts in (1, 4, 8):
            walk = "s" * 2 + drawn_walk(drawn, 300)
            self.assertEqual(crossing_row(walk, posts), told_row(walk, posts))
        self.assertEqual(crossing_row("s" + "e" * 9 + "w" * 9, 8), "abcdefghHGFEDCBA")
        self.assertEqual(crossing_row("s" + "e" * 9 + "w" * 9, 1), "aA")
        self.assertEqual(crossing_row("e" * 9, 8), "")
        self.assertEqual(crossing_row("sw", 8), "")

    def test_walk_of(self):
        for row in all_rows(3, 3):
            self.assertEqual(crossing_row(walk_of(row), 3), row)
            self.assertEqual(end(walk_of(row)), (0, 1))
        for sign in SIGNS:
            post = SIGNS.index(sign) // 2
            self.assertEqual(walk_of(sign), "e" * post + ("senw" if sign.islower() else "eswn") + "w" * post)
            self.assertEqual(crossing_row(walk_of(sign), 8), sign)
            self.assertEqual(crossing_row(walk_of(sign), post + 1), sign)
        self.assertEqual(walk_of(""), "")

    def test_plain_walk(self):
        for posts in (1, 2):
            for walk in all_walks(5):
                x, y = end(walk)
                straight = ("e" if x > 0 else "w") * abs(x) + ("n" if y > 1 else "s") * abs(y - 1)
                plain = plain_walk(walk, posts)
                self.assertEqual(plain, walk_of(taken_out(told_row(walk, posts))) + straight)
                self.assertEqual(plain_walk(plain, posts), plain)
        self.assertEqual(plain_walk("", 8), "")


class TestPushes(unittest.TestCase):
    def assert_chain(self, one, other, posts, value):
        self.assertIsInstance(value, tuple)
        self.assertEqual((value[0], value[-1]), (one, other))
        for walk, following in zip(value, value[1:]):
            self.assertIn(following, pushes(walk, posts))
        self.assertTrue(push_chain_holds(one, other, posts, value))

    def test_holds_exactly_for_pushes(self):
        for posts in (1, 2):
            for walk in all_walks(4):
                led = pushes(walk, posts)
                for other in all_walks(4):
                    self.assertEqual(push_chain_holds(walk, other, posts, (walk, other)), other in led)

    def test_pushes_leave_walks_alike(self):
        for posts in (1, 2):
            for walk in all_walks(5):
                for other in pushes(walk, posts):
                    self.assertTrue(alike_walks(walk, other, posts))

    def test_alike_walks(self):
        walks = all_walks(4)
        for posts in (1, 2):
            for one in walks[::5]:
                for other in walks:
                    same = end(one) == end(other) and taken_out(told_row(one, posts)) == taken_out(told_row(other,
                        posts))
                    self.assertEqual(alike_walks(one, other, posts), same)
                    value = push_chain(one, other, posts)
                    if same:
                        self.assert_chain(one, other, posts, value)
                    else:
                        self.assertIsNone(value)

    def test_joined_by_pushes_exactly_if_alike(self):
        # All walks of at most six steps, led on by pushes among themselves.
        walks = all_walks(4)
        for posts in (1, 2):
            met, left = {}, set(all_walks(6))
            for walk in walks:
                if walk in left:
                    lot = [walk]
                    left.discard(walk)
                    for place in lot:
                        further = [other for other in pushes(place, posts) if other in left]
                        lot += further
                        left.difference_update(further)
                    for place in lot:
                        met[place] = walk
            for walk in walks:
                for other in ("", "ns", "se", "es", "ew", "senw", "eswn"):
                    if met[walk] == met[other]:
                        self.assertTrue(alike_walks(walk, other, posts))

    def test_every_walk_is_pushed_to_its_plain_one(self):
        for posts in (1, 2, 3):
            for walk in all_walks(5):
                self.assert_chain(walk, plain_walk(walk, posts), posts,
                    push_chain(walk, plain_walk(walk, posts), posts))

    def test_drawn_walks(self):
        drawn = draws(12)
        for many in range(30):
            posts = 1 + drawn(8)
            walk = drawn_walk(drawn, 40) if many % 2 else "s" * 3 + "".join("eswn"[drawn(3)] for _ in range(37))
            plain = plain_walk(walk, posts)
            for one, other in ((walk, plain), (plain, walk)):
                value = push_chain(one, other, posts)
                self.assertTrue(push_chain_holds(one, other, posts, value))
            if many < 6:
                self.assert_chain(plain, walk, posts, value)

    def test_pushed_at_random_and_back(self):
        drawn = draws(13)
        for _ in range(20):
            posts = 1 + drawn(3)
            walk = other = drawn_walk(drawn, 12)
            for _ in range(20):
                led = sorted(pushes(other, posts))
                other = led[drawn(len(led))]
            self.assertTrue(push_chain_holds(walk, other, posts, push_chain(walk, other, posts)))

    def test_walks_of_long_rows(self):
        drawn = draws(14)
        row = drawn_row(drawn, 8, 150)
        other = row[:70] + "hHbB" * 30 + "gG" + row[70:]
        for one, goal in ((walk_of(row), walk_of(other)), (walk_of(other), walk_of(reduced(row)))):
            self.assertTrue(push_chain_holds(one, goal, 8, push_chain(one, goal, 8)))
        self.assertIsNone(push_chain(walk_of(row), walk_of(row + "a"), 8))
        one, goal = "n" + walk_of("hH" * 150), "wne"
        self.assertTrue(alike("", "hH" * 150))
        self.assertTrue(push_chain_holds(one, goal, 8, push_chain(one, goal, 8)))

    def test_rounds_of_posts_that_the_board_has_not(self):
        one = walk_of("bBcA")
        self.assert_chain(one, walk_of("A"), 1, push_chain(one, walk_of("A"), 1))

    def test_equal_walks(self):
        for walk in ("", "n", "senw", "sseenwnw"):
            self.assert_chain(walk, walk, 2, push_chain(walk, walk, 2))
            self.assertTrue(push_chain_holds(walk, walk, 2, (walk,)))

    def test_other_values_do_not_hold(self):
        wrong = ["ne", ("ne",), ("en",), ("en", "ne"), ["ne", "en"], (), ("ne", "ne", "en"), ("ne", "en", "en"),
            ("ne", None, "en"),
                 ("ne", "E", "en"), ("ne", ("ne", "en"), "en"), ("ne", "nee", "en"), ("ne", "nesnew", "en")]
        for value in wrong + list(NO_STRINGS):
            self.assertFalse(push_chain_holds("ne", "en", 1, value), value)
        self.assertTrue(push_chain_holds("ne", "en", 1, ("ne", "ne" + "we", "ne", "en")))
        self.assertFalse(push_chain_holds("se", "es", 1, ("se", "es")))
        self.assertFalse(push_chain_holds("ese", "ees", 2, ("ese", "ees")))
        self.assertTrue(push_chain_holds("ese", "ees", 1, ("ese", "ees")))
        self.assertTrue(push_chain_holds("sw", "ws", 8, ("sw", "ws")))
        self.assertTrue(push_chain_holds("sse", "ses", 8, ("sse", "ses")))


if __name__ == "__main__":
    unittest.main()
