"""Posts led round one another ([44] to [48])."""

import unittest
from itertools import combinations, product

from ropesheld.leads import (
    are_images, carried, crossings, first_parted, images, leads_for, leads_hold, led_back, led_row, left_leads,
    same_leads, spots, whole_round, whole_rounds)
from tests.support import NO_LEADS, NO_STRINGS, all_rows, draws, drawn_row, reduced_rows, taken_out, turned

POSTS = "abcdefgh"
SMALL = [leads for many in range(4) for leads in product((1, -1, 2, -2), repeat=many)]


def told_row(leads, row):
    """The row to which a row is led, by the words of the document."""
    for lead in leads:
        x, y = POSTS[abs(lead) - 1:abs(lead) + 1]
        goals = {x: x + y + x.upper(), y: x} if lead > 0 else {x: y, y: y.upper() + x + y}
        goals.update({post.upper(): turned(goal) for post, goal in goals.items()})
        row = taken_out("".join(goals.get(sign, sign) for sign in row))
    return taken_out(row)


def drawn_leads(drawn, posts, most):
    """Some leads, as many as told at most, with images of at most 2,000 signs together."""
    leads = []
    for _ in range(most):
        lead = (1 + drawn(posts - 1)) * (1, -1)[drawn(2)]
        if len("".join(images(posts, leads + [lead]))) <= 2000:
            leads.append(lead)
    return tuple(leads)


class TestLeads(unittest.TestCase):
    def test_led_row(self):
        for leads in SMALL:
            for row in all_rows(3, 2):
                self.assertEqual(led_row(3, leads, row), told_row(leads, row))
        self.assertEqual((led_row(2, [1], "ABb"), led_row(2, [-1], "BA"), led_row(1, [], "aAa")), ("aBA", "BA", "a"))
        self.assertEqual((led_row(2, [], "abB"), led_row(8, [7, -7], "hGH")), ("a", "hGH"))
        self.assertEqual(led_row(8, [7], "ag"), "aghG")

    def test_images(self):
        drawn = draws(101)
        for posts, leads in [(3, leads) for leads in SMALL] + [
                (posts, drawn_leads(drawn, posts, 60)) for posts in (2, 3, 4, 5, 8)]:
            rows = images(posts, leads)
            self.assertEqual(rows, tuple(told_row(leads, post) for post in POSTS[:posts]))
            row = drawn_row(drawn, posts, 10)
            parts = [rows[POSTS.index(sign.lower())] for sign in row]
            self.assertEqual(led_row(posts, leads, row), taken_out("".join(
                part if sign.islower() else turned(part) for part, sign in zip(parts, row))))
            self.assertEqual(taken_out("".join(rows)), POSTS[:posts])
        self.assertEqual((images(1, []), images(2, ()), images(2, [1])), (("a",), ("a", "b"), ("abA", "a")))

    def test_carried_and_spots(self):
        drawn = draws(102)
        for posts, leads in [(3, leads) for leads in SMALL] + [(5, drawn_leads(drawn, 5, 60)), (8, (1, -3, 7, 5, 4))]:
            for (arm, post), image in zip(carried(posts, leads), images(posts, leads)):
                self.assertEqual(arm + post + turned(arm), image)
            self.assertEqual(len(carried(posts, leads)), posts)
            standing = list(POSTS[:posts])
            for lead in leads:
                at = abs(lead)
                standing[at - 1:at + 1] = standing[at - 1:at + 1][::-1]
            self.assertEqual(spots(posts, leads), tuple(POSTS[standing.index(post)] for post in POSTS[:posts]))
        self.assertEqual((carried(1, ()), spots(1, ())), ((("", "a"),), ("a",)))

    def test_led_back(self):
        for leads in SMALL:
            self.assertEqual(images(3, leads + led_back(leads)), ("a", "b", "c"))
            self.assertEqual(images(3, led_back(list(leads)) + leads), ("a", "b", "c"))
        self.assertEqual((led_back([1, -2]), led_back(()), led_back([7, 7, -3])), ((2, -1), (), (3, -7, -7)))

    def test_same_leads(self):
        rows = reduced_rows(3, 2)
        for one in SMALL[::4]:
            for other in SMALL[::3]:
                parted = [row for row in rows if told_row(one, row) != told_row(other, row)]
                self.assertEqual(same_leads(3, one, other), parted == [])
                posts = [post for post in "abc" if post in parted]
                self.assertEqual(first_parted(3, one, other), posts[0] if posts else None)
        self.assertTrue(same_leads(3, [1, 2, 1], [2, 1, 2]) and same_leads(4, [1, 3], [3, 1]) and same_leads(1, [], ()))
        self.assertFalse(same_leads(2, [1], [-1]))
        self.assertEqual((first_parted(4, [3], [-3]), first_parted(4, [3], [])), ("c", "c"))
        self.assertEqual(first_parted(3, [2, 1], [2]), "a")


class TestLeadsFor(unittest.TestCase):
    def assert_found(self, value):
        leads = leads_for(value)
        self.assertIsInstance(leads, tuple)
        self.assertTrue(all(type(lead) is int and 1 <= abs(lead) < len(value) for lead in leads))
        self.assertEqual(tuple(told_row(leads, post) for post in POSTS[:len(value)]), value)
        self.assertTrue(leads_hold(value, leads))
        self.assertTrue(are_images(value))

    def test_of_images(self):
        for leads in SMALL:
            self.assert_found(images(3, leads))
        drawn = draws(103)
        for posts in (2, 3, 4, 5) * 5:
            self.assert_found(images(posts, drawn_leads(drawn, posts, 60)))
        for value in (("a",), ("a", "b"), tuple("abcdefgh"), images(5, whole_round(5) * 3)):
            self.assert_found(value)

    def test_all_short_rows(self):
        told = {images(2, (lead,) * many) for lead in (1, -1) for many in range(6)}
        for value in product(reduced_rows(2, 3), repeat=2):
            self.assertEqual(are_images(value), value in told, value)
            self.assertEqual(leads_for(value) is not None, value in told)
        told = {images(3, leads) for many in range(5) for leads in product((1, -1, 2, -2), repeat=many)}
        rows = [arm + post + turned(arm) for post in "abc" for arm in ("", *"aAbBcC") if arm.lower() != post]
        for value in product([*rows, "A", "ab"], repeat=3):
            self.assertEqual(are_images(value), value in told, value)
            self.assertEqual(leads_for(value) is not None, value in told)

    def test_other_values(self):
        wrong = [("b", "a"), ("a", "a"), ("a", "B"), ("b",), ("A",), ("",), ("aAa",), ("abA", "b"), ("abA", "aAa"),
                 ["abA", "a"], ("a", "c"), ("a", "b", "i"), ("a", None), ("a", ("b",)), ("abaBA", "a"), ("ab", ""),
                 ("a", "b", "cCc"), ("", "ab"), ("aab", "A"), tuple("abcdefghi"), ("a",) * 9, (), "ab", "a", ("a", 1),
                 ("ba", "Ab"), ("ab", "BbB"), ("abA", "a", "b")]
        for value in wrong + list(NO_STRINGS):
            if value not in (("a",),):
                self.assertFalse(are_images(value), value)
                self.assertIsNone(leads_for(value), value)
                self.assertFalse(leads_hold(value, ()), value)
                self.assertFalse(leads_hold(value, (1,)), value)

    def test_leads_hold(self):
        for leads in SMALL[:85:3]:
            for others in SMALL[:85:2]:
                told = tuple(told_row(others, post) for post in "abc") == images(3, leads)
                self.assertEqual(leads_hold(images(3, leads), others), told)
        value = ("abA", "a", "c")
        self.assertTrue(leads_hold(value, (1,)) and leads_hold(value, (2, -2, 1)))
        for leads in [leads for leads, _ in NO_LEADS] + list(NO_STRINGS) + [[1], (3,), (True,), (-1,), (1, 0), 1, "1"]:
            self.assertFalse(leads_hold(value, leads), leads)
        self.assertFalse(leads_hold(("a",), (1,)))
        self.assertTrue(leads_hold(("a",), ()))
        self.assertFalse(leads_hold(("a",), []))


class TestOthers(unittest.TestCase):
    def test_left_leads(self):
        drawn = draws(104)
        lots = [(3, leads) for leads in SMALL] + [(posts, drawn_leads(drawn, posts, 40)) for posts in (2, 4, 5, 8)]
        for posts, leads in lots:
            for post in POSTS[:posts]:
                left = left_leads(posts, leads, post)
                rest = [other for other in POSTS[:posts] if other != post]
                end = POSTS.index(spots(posts, leads)[POSTS.index(post)])
                names = [other for at, other in enumerate(POSTS[:posts]) if at != end]
                # Without the post, the others are led as ahead, but for its signs.
                for at, other in enumerate(rest):
                    image = [sign for sign in told_row(leads, other) if sign.lower() != POSTS[end]]
                    named = [POSTS[names.index(sign.lower())] for sign in image]
                    signs = [name if sign.islower() else name.upper() for name, sign in zip(named, image)]
                    self.assertEqual(told_row(left, POSTS[at]), taken_out("".join(signs)))
        self.assertEqual((left_leads(2, [1, 1, -1], "a"), left_leads(2, [], "b"), left_leads(4, [3, -1, 2], "a")),
                         ((), (), (2,)))
        self.assertEqual(left_leads(4, [3, -1, 2], "d"), (-1,))

    def test_crossings(self):
        drawn = draws(105)
        lots = [(3, leads) for leads in SMALL] + [(posts, drawn_leads(drawn, posts, 40)) for posts in (2, 4, 5, 8)]
        for posts, leads in lots:
            found = crossings(posts, leads)
            self.assertEqual([pair[:2] for pair in found], list(combinations(POSTS[:posts], 2)))
            for one, other, number in found:
                kept = leads
                names = POSTS[:posts]
                for post in POSTS[:posts]:
                    if post not in (one, other):
                        # Each one that is taken out leaves the names of the others as they stand.
                        kept = left_leads(len(names), kept, POSTS[names.index(post)])
                        names = names.replace(post, "")
                self.assertEqual(sum(kept), number)
        self.assertEqual((crossings(1, ()), crossings(2, ()), crossings(2, [1, 1, -1])),
                         ((), (("a", "b", 0),), (("a", "b", 1),)))

    def test_whole_round(self):
        self.assertEqual((whole_round(1), whole_round(2), whole_round(3)), ((), (1, 1), (1, 2, 1, 2, 1, 2)))
        for posts in range(1, 9):
            leads, whole = whole_round(posts), POSTS[:posts]
            self.assertEqual(leads, tuple(range(1, posts)) * posts)
            for post, image in zip(whole, images(posts, leads)):
                self.assertEqual(image, taken_out(whole + post + turned(whole)))
            self.assertTrue(all(number == 2 for _, _, number in crossings(posts, leads)))

    def test_whole_rounds(self):
        for posts in range(2, 9):
            for many in range(-3, 4):
                leads = whole_round(posts) * abs(many)
                leads = leads if many > 0 else led_back(leads)
                self.assertEqual(whole_rounds(posts, leads), many)
                self.assertEqual(whole_rounds(posts, (1, -1) + leads), many)
                self.assertIsNone(whole_rounds(posts, leads + (1,)))
                self.assertIsNone(whole_rounds(posts, (-1, -1, -1) + leads))
        self.assertEqual((whole_rounds(1, ()), whole_rounds(5, []), whole_rounds(2, [-1] * 60)), (0, 0, -30))
        for leads in SMALL:
            told = []
            for many in range(-2, 3):
                around = ("abc" if many > 0 else "CBA") * abs(many)
                if images(3, leads) == tuple(taken_out(around + post + turned(around)) for post in "abc"):
                    told.append(many)
            self.assertEqual(whole_rounds(3, leads), told[0] if told else None)


if __name__ == "__main__":
    unittest.main()
