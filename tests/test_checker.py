"""One checker for all papers ([79] to [82])."""

import unittest
from itertools import product

from ropesheld.checker import holds, knot_in, sheet_back, sheet_on, wrong_sheets
from ropesheld.closed import same_closed, some_arm
from ropesheld.handles import handle_pairs
from ropesheld.houses import House
from ropesheld.leads import images, leads_for
from ropesheld.maps import Map, plain_map
from ropesheld.outside import side_house
from ropesheld.parting import parting
from ropesheld.pulled import falling
from ropesheld.rows import alike, chain
from ropesheld.series import commutator
from ropesheld.sheets import fall_together
from ropesheld.shortening import map_between
from ropesheld.squares import square_rows
from ropesheld.tying import tied
from ropesheld.undoing import missed, undone
from ropesheld.wishes import rope_for
from tests.support import (
    EVENS, HOUSE, NO_STRINGS, SLIDE, TWICE, WEB, all_houses, all_rows, all_wishes, draws, drawn_row, reduced_rows,
    taken_out, told_goal, turned)

KINDS = ("alike", "unlike", "closed", "tied", "untied", "wish", "handles", "folds", "together", "missed", "moved",
         "leads")
FLIP, BACK = Map(2, ["b", "A"]), Map(2, ["B", "a"])
GOOD = [
    ("alike", ("abB", "a"), ("abB", "a")),
    ("unlike", ("a", ""), (House([[1, 0]]), 0)),
    ("closed", ("baa", "aab"), "b"),
    ("tied", (("abAB", "aab"), "aabbaBA"), ((1, False), (0, True))),
    ("untied", (("aa", "b"), "a"), House([[1, 0], [0, 1]])),
    ("wish", (("a", "b"), 2), "abAB"),
    ("handles", ("abAB",), (("ab", "A"),)),
    ("folds", ("abAB",), ("a", "Ab", "B")),
    ("together", (("ab", "A", "B"),), ("", "B", "")),
    ("missed", (TWICE,), ("a", House([[1, 0], [0, 1]]))),
    ("moved", ("aB", "a"), (SLIDE, Map(2, ["aB", "b"]))),
    ("leads", (2, ("abA", "a")), (1,)),
]


def nested(value, times):
    """A value within so many tuples."""
    for _ in range(times):
        value = (value,)
    return value


ANY = [*NO_STRINGS, *GOOD, "", "a", "ab", "alike", "tied", HOUSE, WEB, EVENS, SLIDE, FLIP, (HOUSE, 0), (HOUSE, True),
       (FLIP, BACK), (FLIP, None), ("a", HOUSE), ((0, False),), ((0, 0),), ((-1, True),), (1, -1), (True,),
       nested("a", 8),
       nested(0, 8), [[[[[[[["a"]]]]]]]], ("abB", ["a"]), (("a", "b"), "ab"), (("a", "b"), ("a", "b")), "abB" * 99]


def made_papers():
    """Sheets that the program makes, of each kind."""
    drawn, found = draws(791), []
    for _ in range(14):
        one, other = drawn_row(drawn, 2, drawn(8)), drawn_row(drawn, 2, drawn(8))
        ropes = [drawn_row(drawn, 2, drawn(5)) for _ in range(3)]
        word = ropes[0] + turned(ropes[1]) + ropes[2]
        leads = [(1, -1, 2, -2)[drawn(4)] for _ in range(drawn(9))]
        found += [
            ("alike", (one, taken_out(one + "bAaB")), chain(one, taken_out(one + "bAaB"))),
            ("unlike", (one, other), parting(2, one, other)),
            ("closed", (other + one + turned(other), one), some_arm(other + one + turned(other), one)),
            ("tied", (ropes, word), tied(2, ropes, word)), ("tied", (ropes, one), tied(2, ropes, one)),
            ("untied", (ropes, one), side_house(2, ropes, one)),
            ("untied", (ropes[:1], "ab"), side_house(2, ropes[:1], "ab")),
            ("handles", (commutator(one[:3], other[:2]),), handle_pairs(commutator(one[:3], other[:2]))),
            ("folds", (one[:3] + one[:3] + "bb",), square_rows(one[:3] + one[:3] + "bb")),
            ("together", ([one[:4], "b" + turned(one[:4]) + "B", "aA"],),
             fall_together([one[:4], "b" + turned(one[:4]) + "B", "aA"])),
            ("missed", (Map(2, [one[:6], other[:6]]),), missed(Map(2, [one[:6], other[:6]]))),
            ("leads", (3, images(3, leads)), leads_for(images(3, leads))),
            ("leads", (3, images(3, leads)), tuple(leads)),
        ]
        there = map_between(one[:5], FLIP.led(SLIDE.led(one[:5])), 2)
        found.append(("moved", (one[:5], FLIP.led(SLIDE.led(one[:5]))), (there, undone(there))))
    found += [("wish", (wish, 3), rope_for(wish, 3)) for wish in all_wishes(3)]
    return [sheet for sheet in found if sheet[2] is not None]


class TestKinds(unittest.TestCase):
    def assert_holds(self, kind, question, value, told):
        self.assertIs(holds(kind, question, value), told, (kind, question, value))

    def test_one_of_each_kind(self):
        self.assertEqual(tuple(kind for kind, _, _ in GOOD), KINDS)
        for sheet in GOOD:
            self.assert_holds(*sheet, True)

    def test_what_the_program_makes_holds(self):
        told = {}
        for kind, question, value in made_papers():
            self.assert_holds(kind, question, value, True)
            told[kind] = told.get(kind, 0) + 1
        self.assertEqual(set(told), set(KINDS))
        self.assertTrue(all(many > 3 for many in told.values()), told)

    def test_papers_of_other_kinds_and_questions(self):
        for kind, _, value in GOOD:
            for other, question, _ in GOOD:
                if other != kind:
                    self.assertIsInstance(holds(kind, question, value), bool)
        for kind, question, value in GOOD:
            for wrong in [value for value in ANY if value not in KINDS] + ["Alike", "alike ", "chain", "unlikely"]:
                self.assertIs(holds(wrong, question, value), False)

    def test_any_values(self):
        for kind, question, _ in GOOD:
            for value in ANY:
                self.assert_holds(kind, question, value, kind == "unlike" and value == (HOUSE, 0))
        self.assertIs(holds("leads", (2, ("abA", "a")), (True,)), False)
        self.assertIs(holds("tied", (("a",), "a"), ((False, False),)), False)
        self.assertIs(holds("tied", (("a",), "a"), ((0, 0),)), False)
        self.assertIs(holds("unlike", ("a", ""), (House([[1, 0]]), False)), False)

    def test_questions_that_are_none(self):
        for kind, question, value in GOOD:
            for wrong in [*ANY, question + ("a",), question[:-1], (), list(question), None, question[:1] + ("?",),
                          ("?",) + question[1:], (None,) * len(question), (["a", "?"],) * len(question)]:
                if wrong != question:
                    self.assertIsInstance(holds(kind, wrong, value), bool)
        for kind, question in (("alike", ("a?", "a?")), ("alike", "aa"), ("alike", ["a", "a"]), ("closed", ("i", "i")),
                               ("wish", (("a", "b"), True)), ("wish", (("b", "a"), 2)), ("wish", (["a", "b"], 2)),
                               ("wish", (("c",), 2)), ("wish", (("a", "b"), 9)), ("leads", (2, ("b", "a"))),
                               ("leads", (True, ("a",))), ("leads", (0, ())), ("leads", (3, ("a", "b"))),
                               ("leads", (2, ("aAa", "b"))), ("handles", (None,)), ("folds", ("a?",)),
                               ("together", ("a",)), ("together", (("a", None),)), ("missed", (HOUSE,)),
                               ("moved", ("a", "i")), ("tied", ("a", "a")), ("untied", (("a", 1), "b")),
                               ("untied", (5, "a")), ("untied", ("a", "b")), ("untied", (("b",), None)),
                               ("tied", (None, ""))):
            for value in [*ANY, ("a?", "a?"), ()]:
                self.assertIs(holds(kind, question, value), False, (kind, question, value))

    def test_chains_and_houses(self):
        rows = all_rows(2, 2)
        for one, other in product(rows[::2], repeat=2):
            for value in ((one, other), (one,), (one, "", other), (other, one), [one, other], ()):
                told = isinstance(value, tuple) and len(value) > 0 and (value[0], value[-1]) == (one, other)
                for x, y in zip(value, value[1:]):
                    # Of rows of at most two signs, these are moves.
                    told = told and abs(len(x) - len(y)) == 2 and taken_out(x) == taken_out(y)
                self.assert_holds("alike", (one, other), value, told)
            for house in all_houses(2, 2):
                told = told_goal(house, 0, one) != told_goal(house, 0, other)
                self.assert_holds("unlike", (one, other), (house, 0), told)
        self.assert_holds("unlike", ("a", "b"), (House([[1, 0]]), 0), False)
        self.assert_holds("unlike", ("a", "bB"), (House([[1, 0]]), 0), False)
        self.assert_holds("unlike", ("a", ""), (House([[1, 0]]), 2), False)
        self.assert_holds("unlike", ("a", ""), (House([[1, 0], [0, 1], [0, 1]]), 1), True)

    def test_arms(self):
        rows = reduced_rows(2, 2)
        for one, other, arm in product(rows[::2], rows, rows[::3] + ["aAb", "hH"]):
            told = taken_out(arm + other + turned(arm)) == taken_out(one)
            self.assert_holds("closed", (one, other), arm, told)

    def test_knots_and_side_houses(self):
        ropes = ("ab", "B", "aA")
        pairs = list(product(range(3), (False, True)))
        for row in ("", "a", "ab", "bab", "BaA"):
            for knot in [()] + [(pair,) for pair in pairs] + list(product(pairs, repeat=2)):
                made = "".join(turned(ropes[at]) if back else ropes[at] for at, back in knot)
                self.assert_holds("tied", (ropes, row), knot, taken_out(made) == taken_out(row))
                self.assert_holds("tied", (list(ropes), row), knot, taken_out(made) == taken_out(row))
        self.assert_holds("tied", (("h", "hg"), "G"), ((1, True), (0, False)), True)
        for house in all_houses(2, 3)[::2]:
            for row in ("a", "ab", "aab", ""):
                told = told_goal(house, 0, row) != 0 and all(told_goal(house, 0, rope) == 0 for rope in ("aa", "bAb"))
                self.assert_holds("untied", (("aa", "bAb"), row), house, told)
        swap = House([[1, 0]])
        self.assert_holds("untied", ((), "a"), swap, True)
        self.assert_holds("untied", (("b",), "a"), swap, False)
        self.assert_holds("untied", (("bB",), "a"), swap, False)
        self.assert_holds("untied", (("aa",), "ab"), swap, False)
        self.assert_holds("untied", (("aa",), "a"), House([[1, 0], [1, 0], [0, 1]]), True)

    def test_wishes(self):
        for wish in all_wishes(2):
            for row in all_rows(2, 3)[::2] + ["abAB"]:
                self.assert_holds("wish", (wish, 2), row, falling(row, 2) == wish)
        self.assert_holds("wish", (("a",), 1), "b", False)
        self.assert_holds("wish", (("a",), 8), "aaA", True)
        self.assert_holds("wish", (("",), 2), "cC", False)

    def test_handles_folds_and_ropes_together(self):
        rows = all_rows(2, 1)
        for u, v in product(rows, repeat=2):
            for row in ("abAB", "baBA", "", "aab", "aA", "BB"):
                told = taken_out(u + v + turned(u) + turned(v)) == taken_out(row)
                self.assert_holds("handles", (row,), ((u, v),), told)
                self.assert_holds("folds", (row,), (u, v), taken_out(u + u + v + v) == taken_out(row))
                for ropes in (("a", row), [row, "aab"]):
                    told = taken_out(u + ropes[0] + turned(u) + v + ropes[1] + turned(v)) == ""
                    self.assert_holds("together", (ropes,), (u, v), told)
        for value in ("", ("a",), ("a", "b", "")):
            self.assert_holds("together", (("a", "A"),), value, False)

    def test_missed_posts(self):
        for house in all_houses(2, 2):
            for post in ("a", "b", "A", "c", "", None, 0):
                for one in (TWICE, SLIDE, Map(2, ["aa", "b"]), Map(2, ["", "bb"]), Map(2, ["abAB", ""])):
                    told = post in ("a", "b") and told_goal(house, 0, post) != 0
                    told = bool(told and all(told_goal(house, 0, row) == 0 for row in one.rows))
                    self.assert_holds("missed", (one,), (post, house), told)
        self.assert_holds("missed", (Map(2, ["", "a"]),), ("b", House([[0, 1], [1, 0]])), True)
        self.assert_holds("missed", (Map(2, ["aa", "aa"]),), ("a", House([[1, 0]])), True)
        self.assert_holds("missed", (Map(2, ["a", ""]),), ("b", House([[0]])), False)
        self.assert_holds("missed", (Map(3, ["a", "b", "b"]),), ("c", House([[0, 1], [0, 1]])), False)

    def test_moved(self):
        for value in ((None, FLIP), (FLIP, None), ("a", SLIDE), (FLIP,), (FLIP, BACK, BACK), [FLIP, BACK],
                      (BACK, HOUSE)):
            self.assert_holds("moved", ("a", "b"), value, False)
        self.assert_holds("moved", ("a", "b"), (FLIP, BACK), True)
        self.assert_holds("moved", ("a", "bcC"), (FLIP, BACK), False)
        self.assert_holds("moved", ("acC", "b"), (FLIP, BACK), False)
        maps = [SLIDE, Map(2, ["aB", "b"]), FLIP, BACK, plain_map(2), TWICE, Map(3, ["a", "b", "c"]), Map(1, ["A"])]
        for there, back in product(maps, repeat=2):
            plain = tuple("abc"[:there.posts])
            is_undone = there.posts == back.posts and tuple(map(there.led, back.rows)) == plain
            is_undone = is_undone and tuple(map(back.led, there.rows)) == plain
            for one, other in product(("a", "aB", "bB", "ab", "A", "aBbB", "c"), repeat=2):
                fits = all(sign.lower() in plain for sign in one + other)
                told = bool(is_undone and fits and there.led(one) == taken_out(other))
                self.assert_holds("moved", (one, other), (there, back), told)

    def test_leads(self):
        for leads in product((1, -1, 2, -2), repeat=3):
            rows = images(3, leads)
            self.assert_holds("leads", (3, rows), leads, True)
            self.assert_holds("leads", (3, list(rows)), leads, True)
            self.assert_holds("leads", (3, rows), leads + (1, -1), True)
            self.assert_holds("leads", (3, rows), leads + (1,), False)
            self.assert_holds("leads", (3, rows), leads[1:], images(3, leads[1:]) == rows)
            self.assert_holds("leads", (3, rows), list(leads), False)
            self.assert_holds("leads", (3, (rows[0] + "aA", *rows[1:])), leads, False)
            self.assert_holds("leads", (4, (*rows, "d")), leads, True)
        for value in ((0,), (3,), (-3,), (1, None), ("1",), (True,), (1, 1), (-1,), (), "1", (10 ** 20,)):
            self.assert_holds("leads", (3, images(3, (1,))), value, False)
        for rows, told in ((("a", "b", "c"), True), (("aAa", "b", "c"), False), (("a", "b", "cCc"), False)):
            self.assert_holds("leads", (3, rows), (1, 2, 1, -2, -1, -2), told)
            self.assert_holds("leads", (3, rows), (-2, 1, 2, 1, -2, -1), told)
        self.assert_holds("leads", (1, ("a",)), (), True)
        self.assert_holds("leads", (1, ("A",)), (), False)
        self.assert_holds("leads", (1, ("a",)), (1,), False)


class TestLongPapers(unittest.TestCase):
    def test_two_thousand_things(self):
        drawn = draws(793)
        long = tuple(["ab" * 20 + "cC" * (at % 2) + "ba" for at in range(2001)])
        self.assertIs(holds("alike", (long[0], long[-1]), long), True)
        self.assertIs(holds("alike", (long[0], long[-1]), long[:999] + long[1000:]), False)
        there, back = ("alike", (long[0], long[-1]), long), ("alike", (long[-1], long[0]), long[::-1])
        self.assertEqual(len(sheet_on(there, back)[2]), 4001)
        ropes = [drawn_row(drawn, 4, 60) for _ in range(64)]
        knot = tuple((drawn(64), drawn(2) == 1) for _ in range(2000))
        row = taken_out("".join(turned(ropes[at]) if back else ropes[at] for at, back in knot))
        self.assertIs(holds("tied", (ropes, row), knot), True)
        self.assertIs(holds("tied", (ropes, row), knot[1:]), False)
        pairs = tuple((drawn_row(drawn, 3, 9), drawn_row(drawn, 3, 9)) for _ in range(2000))
        row = taken_out("".join(u + v + turned(u) + turned(v) for u, v in pairs))
        self.assertIs(holds("handles", (row,), pairs), True)
        self.assertIs(holds("handles", (row,), pairs[1:]), False)
        rows = tuple(drawn_row(drawn, 3, 30) for _ in range(2000))
        self.assertIs(holds("folds", (taken_out("".join(row + row for row in rows)),), rows), True)
        self.assertIs(holds("together", (rows + tuple(map(turned, rows[::-1])),), ("",) * 4000), True)
        self.assertIs(holds("together", (rows + tuple(map(turned, rows)),), ("",) * 4000), False)

    def test_many_leads(self):
        self.assertIs(holds("leads", (2, images(2, (1,) * 60)), (1,) * 60), True)
        self.assertIs(holds("leads", (2, images(2, (1,) * 60)), (1,) * 2000), False)
        self.assertIs(holds("leads", (3, ("a", "b", "c")), (1, -1) * 1000), True)
        # In between these images are very long.
        there = (1, -2) * 30
        self.assertIs(holds("leads", (3, ("a", "b", "c")), there + (2, -1) * 30), True)
        self.assertIs(holds("leads", (3, images(3, (1,))), there + (2, -1) * 30 + (1,)), True)
        self.assertIs(holds("leads", (3, images(3, (1,))), there[:40]), False)

    def test_sheets(self):
        sheets = GOOD * 40 + [("alike", ("a", "b"), ("a", "b"))] + GOOD
        self.assertEqual(wrong_sheets(sheets), (480,))
        self.assertEqual(wrong_sheets(tuple(sheets)), (480,))


class TestSheets(unittest.TestCase):
    def test_wrong_sheets(self):
        wrong = [("alike", ("a", "b"), ("a", "b")), ("closed", ("a", "b"), ""), ("x", ("a",), "a"), (None, None, None),
                 ("tied", (("a",), "b"), ()), ("missed", (SLIDE,), None)]
        self.assertEqual(wrong_sheets([*GOOD, *wrong]), tuple(range(len(GOOD), len(GOOD) + len(wrong))))
        self.assertEqual((wrong_sheets([]), wrong_sheets(()), wrong_sheets(GOOD)), ((), (), ()))
        self.assertEqual(wrong_sheets([wrong[0], GOOD[0], wrong[1], GOOD[1]]), (0, 2))
        sheets = [(kind, question, value) for kind, question, _ in GOOD for value in NO_STRINGS]
        self.assertEqual(wrong_sheets(sheets),
                         tuple(at for at, sheet in enumerate(sheets) if not holds(*sheet)))
        for value in ANY:
            if value not in GOOD:
                self.assertEqual(wrong_sheets([GOOD[0], value]), (1,))

    def test_sheet_back(self):
        for sheet in GOOD + made_papers():
            kind, question, value = sheet
            told = sheet_back(sheet)
            if kind not in ("alike", "closed", "moved"):
                self.assertIsNone(told)
            else:
                back = turned(value) if kind == "closed" else value[::-1]
                self.assertEqual(told, (kind, question[::-1], back))
                self.assertIs(holds(*told), True)
                self.assertEqual(sheet_back(told), sheet)
        self.assertEqual(sheet_back(("closed", ("baa", "aab"), "aAb")), ("closed", ("aab", "baa"), "BaA"))
        for value in [*ANY, ("alike", ("a", "b"), ("a", "b")), ("closed", ("baa", "aab"), "a"),
                      ("alike", ("a", "a"), None),
                      ("moved", ("a", "a"), (SLIDE, SLIDE)), ["alike", ("a", "a"), ("a",)], ("alike", ("a", "a")),
                      ("alike", ["a", "a"], ("a",)), ("moved", ("a", "a"), ("a", "a"))]:
            if value not in GOOD:
                self.assertIsNone(sheet_back(value), value)

    def test_sheets_on(self):
        chains = [("alike", (one, other), chain(one, other)) for one, other in
                  (("abB", "a"), ("a", "aAa"), ("aAa", "a"), ("a", "a"), ("a", "bBa"), ("bBa", "aAa"), ("aAa", "abB"))]
        closed = [("closed", (one, other), some_arm(one, other)) for one, other in product(
            ("aab", "aba", "baa", "BaabB", "bbaaB", "aA", "", "ab"), repeat=2) if same_closed(one, other)]
        pairs = ((SLIDE, undone(SLIDE)), (FLIP, BACK), (BACK, FLIP), (Map(3, ["a", "c", "b"]),) * 2,
                 (Map(1, ["A"]),) * 2)
        moved = [("moved", (one, other), (there, back)) for there, back in pairs
                 for one, other in product(("a", "ab", "b", "aB", "B", "A", "aBbB", "bA"), repeat=2)
                 if holds("moved", (one, other), (there, back))]
        self.assertGreater(len(moved), 15)
        many = {}
        for sheets in (chains, closed, moved):
            for one, other in product(sheets, repeat=2):
                told = self.told_on(one, other)
                self.assertEqual(sheet_on(one, other), told)
                if told is not None:
                    self.assertIs(holds(*told), True)
                    many[one[0]] = many.get(one[0], 0) + 1
        self.assertTrue(len(many) == 3 and all(number > 5 for number in many.values()))
        for one, other in product(GOOD, repeat=2):
            if one[0] != other[0] or one[0] not in ("alike", "closed", "moved"):
                self.assertIsNone(sheet_on(one, other))
        for value in [value for value in ANY if value not in GOOD] + [("alike", ("a", "a"), ("a", "b")), ("a",) * 3]:
            self.assertIsNone(sheet_on(value, GOOD[0]))
            self.assertIsNone(sheet_on(GOOD[0], value))
            self.assertIsNone(sheet_on(value, value))
        # Rows that are alike are not one row.
        self.assertIsNone(sheet_on(("alike", ("a", "aAa"), ("a", "aAa")), ("alike", ("a", "a"), ("a",))))

    def told_on(self, one, other):
        (kind, (first, middle), value), (_, (meeting, last), further) = one, other
        if middle != meeting:
            return None
        if kind == "alike":
            return kind, (first, last), value + further[1:]
        if kind == "closed":
            return kind, (first, last), taken_out(value + further)
        if value[0].posts != further[0].posts:
            return None
        there = Map(value[0].posts, [further[0].led(row) for row in value[0].rows])
        back = Map(value[0].posts, [value[1].led(row) for row in further[1].rows])
        return kind, (first, last), (there, back)

    def test_knot_in(self):
        drawn = draws(794)
        for _ in range(60):
            ropes = [drawn_row(drawn, 2, 1 + drawn(3)) for _ in range(1 + drawn(3))]
            middles, parts = [], []
            for _ in range(1 + drawn(3)):
                knot = tuple((drawn(len(ropes)), drawn(2) == 1) for _ in range(drawn(4)))
                row = "".join(turned(ropes[at]) if back else ropes[at] for at, back in knot) + "aA" * drawn(2)
                middles.append(row)
                parts.append(("tied", (ropes if drawn(2) else tuple(ropes), row), knot))
            knot = tuple((drawn(len(middles)), drawn(2) == 1) for _ in range(drawn(4)))
            row = "".join(turned(middles[at]) if back else middles[at] for at, back in knot)
            whole = ("tied", (middles if drawn(2) else tuple(middles), row), knot)
            told = []
            for at, back in knot:
                own = parts[at][2]
                told += [(one, not way) for one, way in reversed(own)] if back else own
            for sheets in (parts, tuple(parts)):
                self.assertEqual(knot_in(whole, sheets), ("tied", (tuple(ropes), row), tuple(told)))
            self.assertIs(holds(*knot_in(whole, parts)), True)
            self.assertIsNone(knot_in(whole, parts + parts[:1]))
            self.assertIsNone(knot_in(whole, parts[1:]))

    def test_no_knot_in(self):
        whole = ("tied", (("ab", "b"), "a"), ((0, False), (1, True)))
        parts = [("tied", (("a", "b"), "ab"), ((0, False), (1, False))), ("tied", (("a", "b"), "b"), ((1, False),))]
        told = ("tied", (("a", "b"), "a"), ((0, False), (1, False), (1, True)))
        self.assertEqual(knot_in(whole, parts), told)
        self.assertEqual(knot_in(sheets=parts, sheet=whole), told)
        wrong = [("tied", (("a", "b"), "ab"), ((0, False),)), ("tied", (("a", "b"), "aAab"), ((0, False), (1, False))),
                 ("tied", (("a", "b", "b"), "ab"), ((0, False), (1, False))), ("closed", ("ab", "ab"), ""),
                 ("tied", (("b", "a"), "ab"), ((1, False), (0, False))), ("tied", (("a", "b"), "ab"), None)]
        for part in [*wrong, *[value for value in ANY if value not in GOOD], *GOOD]:
            self.assertIsNone(knot_in(whole, [part, parts[1]]), part)
        for value in [*ANY, ("tied", (("ab", "b"), "a"), ((0, False),)), ("alike", ("a", "a"), ("a",)),
                      ("tied", (("ab", "b"), "ab"), ())]:
            self.assertIsNone(knot_in(value, parts), value)
        self.assertIsNone(knot_in(whole, parts[::-1]))
        self.assertIsNone(knot_in(("tied", ((), ""), ()), []))
        self.assertIsNone(knot_in(("tied", ((), ""), ()), ()))
        # Wrong only in what the knot does not need.
        self.assertIsNone(knot_in(("tied", (("ab", "b"), "ab"), ((0, False),)), [parts[0], wrong[0]]))


class TestNeverBoth(unittest.TestCase):
    def test_alike_and_unlike(self):
        rows = all_rows(2, 2)
        for one, other in product(rows[::2], rows):
            is_alike = holds("alike", (one, other), chain(one, other))
            is_unlike = holds("unlike", (one, other), parting(2, one, other))
            self.assertEqual((is_alike, is_unlike), (alike(one, other), not alike(one, other)))
            if is_alike:
                for house in all_houses(2, 3)[::5]:
                    self.assertFalse(any(holds("unlike", (one, other), (house, thing)) for thing in range(3)))

    def test_tied_and_untied(self):
        rows = reduced_rows(2, 2)
        some = draws(795)
        for _ in range(150):
            ropes = [rows[some(len(rows))] for _ in range(some(4))]
            row = rows[some(len(rows))]
            is_tied = holds("tied", (ropes, row), tied(2, ropes, row))
            self.assertIs(holds("untied", (ropes, row), side_house(2, ropes, row)), not is_tied)
            if is_tied:
                self.assertFalse(any(holds("untied", (ropes, row), house) for house in all_houses(2, 3)[::3]))


if __name__ == "__main__":
    unittest.main()
