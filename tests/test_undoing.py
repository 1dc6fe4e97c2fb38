"""Maps that can be undone, what others miss, and how short ropes can be made ([41] to [43])."""

import unittest
from itertools import permutations, product

from ropesheld.houses import House
from ropesheld.maps import Map, led_after, plain_map, turning_map
from ropesheld.shortening import (
    between_holds, changes, is_free_part, is_shortest, least_by_maps, map_between, same_by_maps, shortening)
from ropesheld.tying import tied
from ropesheld.undoing import is_undone, missed, missed_holds, turned_into, turning_row, undone
from tests.support import (
    HOUSE, NO_STRINGS, SLIDE, TWICE, all_houses, all_rows, draws, drawn_row, order, reduced_rows, taken_out, told_goal,
    turned)

SMALL = [Map(2, rows) for rows in product(reduced_rows(2, 2), repeat=2)]


def small_steps(posts):
    """Maps that lead one post to itself and a sign, on either side, to its other sign, or to another post."""
    plain, found = list("abcdefgh"[:posts]), []
    for at, post in enumerate(plain):
        signs = [sign for sign in "".join(plain) + "".join(plain).upper() if sign.lower() != post]
        for row in [post.upper()] + [row for sign in signs for row in (post + sign, sign + post)]:
            found.append(Map(posts, plain[:at] + [row] + plain[at + 1:]))
    return found + [Map(posts, rows) for rows in permutations(plain)]


def drawn_map(drawn, posts, many, longest):
    """Some map that is put together of so many small steps, with rows that are no longer than told."""
    steps, one = small_steps(posts), plain_map(posts)
    for _ in range(many):
        further = led_after(one, steps[drawn(len(steps))])
        one = further if max(map(len, further.rows)) <= longest else one
    return one


class TestUndoing(unittest.TestCase):
    def assert_undone(self, one):
        back = undone(one)
        for post, row in zip("abcdefgh", back.rows):
            self.assertEqual((one.led(row), back.led(one.led(post))), (post, post))
        self.assertTrue(is_undone(one, back) and is_undone(back, one))
        self.assertIsNone(missed(one))
        return back

    def assert_missed(self, one):
        post, house = missed(one)
        self.assertIsNone(undone(one))
        self.assertIn(post, list("abcdefgh"[:one.posts]))
        self.assertIsInstance(house, House)
        self.assertNotEqual(told_goal(house, 0, post), 0)
        self.assertTrue(all(told_goal(house, 0, row) == 0 for row in one.rows))
        self.assertTrue(missed_holds(one, (post, house)))

    def test_undone_or_missed(self):
        for one in SMALL:
            if all(tied(2, one.rows, post) is not None for post in "ab"):
                self.assert_undone(one)
            else:
                self.assert_missed(one)

    def test_short_maps_that_undo_others(self):
        pairs = [(one, other) for one in SMALL[::3] for other in SMALL]
        for one, other in pairs:
            both = [one.led(row) for row in other.rows] == ["a", "b"]
            self.assertEqual(is_undone(one, other), both)
            if both:
                self.assertEqual((undone(one), undone(other)), (other, one))

    def test_maps_put_together(self):
        drawn = draws(91)
        for posts in [1, 2, 3, 4, 5, 6, 7, 8] * 3:
            one = drawn_map(drawn, posts, 30, 12)
            self.assertEqual(undone(self.assert_undone(one)), one)
            rows = list(one.rows)
            rows[drawn(posts)] = taken_out(rows[0] + rows[-1] + rows[0] + rows[-1])
            self.assert_missed(Map(posts, rows))

    def test_long_ways_back(self):
        one = Map(8, ["abbb", "bccc", "cddd", "deee", "efff", "fggg", "ghhh", "h"])
        self.assertEqual(max(map(len, self.assert_undone(one).rows)), 3280)
        one = Map(4, ["a" + "b" * 11, "C" * 11 + "b", "c" + "d" * 11, "D"])
        self.assertEqual(max(map(len, self.assert_undone(one).rows)), 1464)

    def test_edges(self):
        self.assertEqual((undone(Map(1, ["A"])), undone(Map(1, ["a"]))), (Map(1, ["A"]), plain_map(1)))
        self.assertEqual((str(undone(SLIDE)), str(undone(Map(2, ["b", "A"])))), ("aB,b", "B,a"))
        for rows in (["aa"], [""], ["AAA"]):
            self.assert_missed(Map(1, rows))
        for rows in (["", ""], ["a", ""], ["a", "a"], ["ab", "ba"], ["aa", "b"], ["abAB", "b"]):
            self.assert_missed(Map(2, rows))
        self.assertEqual(missed(TWICE)[0], "a")
        self.assert_missed(Map(8, ["a"] * 8))
        self.assertFalse(is_undone(SLIDE, SLIDE))
        self.assertFalse(is_undone(TWICE, plain_map(2)))

    def test_missed_holds(self):
        for one in (TWICE, Map(2, ["a", "a"]), Map(2, ["", ""]), Map(2, ["ab", "ba"]), SLIDE):
            for house in all_houses(2, 2) + all_houses(2, 3)[::3] + all_houses(1, 2):
                for post in "ab":
                    told = False
                    if all(sign.lower() in "ab"[:house.posts] for sign in post + "".join(one.rows)):
                        told = told_goal(house, 0, post) > 0 and all(told_goal(house, 0, row) == 0 for row in one.rows)
                    self.assertEqual(missed_holds(one, (post, house)), told)
        self.assertTrue(missed_holds(Map(2, ["aa", "a"]), ("b", House([[0, 1], [1, 0]]))))
        self.assertTrue(missed_holds(Map(2, ["aa", ""]), ("a", House([[1, 0]]))))
        self.assertTrue(missed_holds(Map(2, ["aa", ""]), ("a", House([[1, 0]] * 8))))

    def test_other_values_do_not_hold(self):
        house = House([[1, 0], [0, 1]])
        self.assertTrue(missed_holds(TWICE, ("a", house)))
        wrong = [["a", house], ("a",), ("a", house, 0), (house, "a"), ("b", house), ("A", house), ("c", house),
                 ("", house), ("ab", house), ("a", House([[1, 0]])), ("a", house.swaps), (0, house), (None, house),
                 (("a",), house), ("a", HOUSE), ("a", TWICE), "ab", house, ("a", "b"), ("i", house)]
        for value in wrong + list(NO_STRINGS):
            self.assertFalse(missed_holds(TWICE, value), value)
        self.assertFalse(missed_holds(Map(1, ["aa"]), ("b", House([[0, 1], [1, 0]]))))


class TestTurning(unittest.TestCase):
    def test_turning_row(self):
        for row in reduced_rows(2, 4):
            self.assertEqual(turning_row(turning_map(2, row)), row)
        turning = {turning_map(2, row).rows: row for row in reduced_rows(2, 4)}
        for one in SMALL:
            self.assertEqual(turning_row(one), turning.get(one.rows))
        self.assertEqual((turning_row(plain_map(1)), turning_row(Map(1, ["A"])), turning_row(Map(1, ["aa"]))),
                         ("", None, None))
        self.assertEqual(turning_row(turning_map(8, "hGabF")), "hGabF")
        self.assertEqual((turning_row(plain_map(5)), turning_row(Map(3, ["a", "b", "abcBA"]))), ("", None))

    def test_turned_into(self):
        arms = reduced_rows(2, 3)
        for one in SMALL[::7]:
            goals = {tuple(taken_out(arm + row + turned(arm)) for row in one.rows) for arm in arms}
            for other in [Map(2, rows) for rows in sorted(goals)] + SMALL[::5]:
                row = turned_into(one, other)
                if row is None:
                    self.assertNotIn(other.rows, goals)
                else:
                    self.assertEqual(row, taken_out(row))
                    for post in "ab":
                        self.assertEqual(other.led(post), taken_out(row + one.led(post) + turned(row)))
        self.assertIsNone(turned_into(SLIDE, TWICE))
        self.assertIsNotNone(turned_into(Map(2, ["", ""]), Map(2, ["", ""])))
        self.assertIsNotNone(turned_into(Map(1, ["aa"]), Map(1, ["aa"])))
        self.assertIsNone(turned_into(Map(2, ["", "a"]), Map(2, ["b", "a"])))


class TestChanges(unittest.TestCase):
    def test_all_changes(self):
        for posts in (1, 2, 3):
            told = set()
            for sign in "aAbBcC"[:2 * posts]:
                other = sign.swapcase()
                choices = [[post] if post == sign.lower() else [post, post + sign, other + post, other + post + sign]
                           for post in "abc"[:posts]]
                told |= set(product(*choices))
            told.discard(tuple("abc"[:posts]))
            found = changes(posts)
            self.assertEqual([str(one) for one in found], sorted(",".join(rows) for rows in told))
            self.assertTrue(all(one.posts == posts for one in found))
        self.assertEqual((changes(1), len(changes(2)), len(changes(3))), ((), 12, 90))

    def test_some_change_that_shortens(self):
        for posts, rows in ((2, reduced_rows(2, 5)[::3]), (3, reduced_rows(3, 4)[::9]), (1, all_rows(1, 3))):
            for row in rows:
                shorter = [one for one in changes(posts) if told_core(one.led(row)) < told_core(row)]
                self.assertEqual(is_shortest(row, posts), shorter == [])
                self.assertTrue(shortening(row, posts) in shorter if shorter else shortening(row, posts) is None)

    def test_no_map_leads_to_shorter_ones(self):
        maps = [Map(2, rows) for rows in product(reduced_rows(2, 3), repeat=2)]
        maps = [one for one in maps if undone(one) is not None]
        for row in reduced_rows(2, 4):
            if is_shortest(row, 2):
                self.assertTrue(all(told_core(one.led(row)) >= told_core(row) for one in maps))
        for row, posts in (("", 2), ("aA", 3), ("aaa", 1), ("aabb", 2)):
            self.assertTrue(is_shortest(row, posts))
        self.assertFalse(is_shortest("aab", 2))


def told_core(row):
    """How long the core of a row is."""
    row = taken_out(row)
    while row and row[0] == row[-1].swapcase():
        row = row[1:-1]
    return len(row)


class TestLeastByMaps(unittest.TestCase):
    def told_classes(self, posts, length):
        """The lots of cores that small steps lead to one another, without being longer than told on the way."""
        steps = small_steps(posts)
        rows = [row for row in reduced_rows(posts, length) if told_core(row) == len(row)]
        into = {row: row for row in rows}
        for row in rows:
            for one in [*steps, *[turning_map(posts, sign.swapcase()) for sign in row[:1]]]:
                goal = one.led(row)
                if goal in into:
                    old, new = sorted([into[row], into[goal]], key=order)
                    into = {key: old if value == new else value for key, value in into.items()} if old != new else into
        return into

    def test_by_trying_small_steps(self):
        into = self.told_classes(2, 5)
        for row, least in into.items():
            if len(row) <= 4:
                self.assertEqual(least_by_maps(row, 2), least)
                self.assertEqual(is_free_part(row, 2), least == "a")
        rows = [row for row in into if len(row) <= 4]
        for one in rows[::9]:
            for other in rows[::4]:
                self.assertEqual(same_by_maps(one, other, 2), into[one] == into[other])

    def test_three_posts(self):
        into = self.told_classes(3, 3)
        for row, least in into.items():
            self.assertEqual(least_by_maps(row, 3), least)
        self.assertEqual((least_by_maps("abcABC", 3), least_by_maps("aabbcc", 3)), ("abAB", least_by_maps("abABcc", 3)))
        self.assertTrue(is_free_part("abABc", 3))
        self.assertFalse(is_free_part("abAB", 3))

    def test_edges(self):
        self.assertEqual((least_by_maps("", 2), least_by_maps("aA", 1), least_by_maps("AAA", 1)), ("", "", "aaa"))
        self.assertEqual((is_free_part("A", 1), is_free_part("aa", 1), is_free_part("", 2)), (True, False, False))
        self.assertEqual((least_by_maps("aab", 2), least_by_maps("BAba", 2)), ("a", "abAB"))
        self.assertTrue(same_by_maps("abAB", "baBA", 2) and same_by_maps("", "aA", 3))
        self.assertFalse(same_by_maps("aabb", "abAB", 2))

    def assert_between(self, one, other, posts):
        value = map_between(one, other, posts)
        self.assertIsInstance(value, Map)
        self.assertEqual((value.posts, value.led(one)), (posts, taken_out(other)))
        self.assertIsNotNone(undone(value))
        self.assertTrue(between_holds(one, other, posts, value))

    def test_map_between(self):
        drawn = draws(92)
        for posts, length in [(1, 6), (2, 10), (2, 5), (3, 6), (3, 3)] * 4:
            one = drawn_row(drawn, posts, 1 + drawn(length))
            other = taken_out("a" + drawn_map(drawn, posts, 6, 4).led(one) + "A")
            self.assert_between(one, one, posts)
            self.assert_between(one, least_by_maps(one, posts), posts)
            if len(other) <= 14:
                self.assert_between(one, other, posts)
                self.assert_between(other, one, posts)
                self.assertEqual(least_by_maps(one, posts), least_by_maps(other, posts))
        self.assert_between("", "aA", 2)
        self.assert_between("abAB", "baBA", 2)
        for one, other, posts in (("a", "aa", 1), ("a", "", 2), ("aabb", "abAB", 2), ("aab", "aabb", 3),
                                  ("aa", "bbb", 2)):
            self.assertIsNone(map_between(one, other, posts))
            self.assertFalse(same_by_maps(one, other, posts))

    def test_between_holds(self):
        for one, other in (("a", "ab"), ("ab", "a"), ("a", "b"), ("aA", ""), ("aabb", "bbaa"), ("a", "a")):
            for value in SMALL:
                told = value.led(one) == taken_out(other) and undone(value) is not None
                self.assertEqual(between_holds(one, other, 2, value), told)
        wrong = [Map(1, ["a"]), Map(3, ["a", "b", "c"]), TWICE, "a,b", ("a", "b"), (plain_map(2),), plain_map(2).rows]
        for value in wrong + [value for value in NO_STRINGS if value is not SLIDE]:
            self.assertFalse(between_holds("b", "b", 2, value), value)
        self.assertTrue(between_holds("b", "b", 2, SLIDE))

    def test_the_longest_rows(self):
        drawn = draws(93)
        for posts, length in ((2, 12), (3, 8)):
            for _ in range(3):
                row = drawn_row(drawn, posts, length)
                self.assertEqual(is_free_part(row, posts), least_by_maps(row, posts) == "a")
                self.assert_between(row, least_by_maps(row, posts), posts)


if __name__ == "__main__":
    unittest.main()
