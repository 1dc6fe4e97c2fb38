"""Desks ([77] and [78])."""

import unittest

from ropesheld.desk import Desk
from ropesheld.errors import InvalidBoard, InvalidCommand, InvalidRow, NoPost, NoRope, Refused
from ropesheld.live import Live
from tests.support import NO_STRINGS, draws
from tests.test_live import TITLES, Told, some_deed, state

FORMS = {
    "board": "N", "lay": "TR", "splice": "TTT", "turn": "TT", "cut": "TTN", "drop": "T", "pull": "P", "put": "P",
    "now": "T", "laid": "T", "bundles": "", "tied": "T", "tying": "T", "merge": "TT", "fall": "T", "text": "",
    "undo": "",
}
WORDS = {"T": "cord", "R": "ab", "N": "1", "P": "a"}


def told_words(words):
    """The words of a command: rows that are empty as "-"."""
    return " ".join([str(word) if word != "" else "-" for word in words])


def told_titles(titles):
    """What a desk says of titles."""
    return " ".join(titles) if titles else "-"


def told_lots(lots):
    """What a desk says of lots of posts."""
    return " ".join(lot or "=" for lot in lots)


class TestAnswers(unittest.TestCase):
    def test_each_answer_is_that_of_a_live_board(self):
        for seed in range(30):
            drawn = draws(770 + seed)
            posts = 1 + seed % 4
            desk, live, told = Desk(), Live(posts), Told(posts)
            self.assertEqual(desk.say(f"board {posts}"), str(posts))
            for _ in range(25):
                if drawn(7) == 0:
                    told.undo()
                    self.assertEqual(desk.say("undo"), "undone" if live.undo() else "nothing")
                else:
                    name, words = some_deed(drawn, told)
                    told.deed(name, words)
                    self.assertEqual(desk.say(f"{name} {told_words(words)}"), told_titles(getattr(live, name)(*words)))
                self.assert_questions(drawn, desk, live)
                self.assertEqual(state(desk.live), state(live))

    def assert_questions(self, drawn, desk, live):
        titles = live.titles()
        self.assertEqual(desk.say("text"), str(live).replace("\n", " ; "))
        self.assertEqual(desk.say("bundles"), " ; ".join(map(" ".join, live.bundles())) or "-")
        for title in titles[:3]:
            self.assertEqual((desk.say("now " + title), desk.say("laid " + title)),
                             (live.now(title) or "-", live.laid(title) or "-"))
            self.assertEqual(desk.say("fall " + title), told_lots(live.least_fall(title)))
            others = [titles[drawn(len(titles))] for _ in range(drawn(4))]
            words = " ".join([title, *others])
            self.assertEqual(desk.say("tied " + words), "yes" if live.tied(title, others) else "no")
            self.assertEqual(desk.say("tying " + words), told_lots(live.tying(title, others)))
            for other in others:
                self.assertEqual(desk.say(f"merge {title} {other}"), told_lots(live.merging(title, other)))

    def test_words(self):
        desk = Desk()
        self.assertIsNone(desk.live)
        self.assertEqual([desk.say(command) for command in (
            "board 3", "bundles", "text", "undo", "lay cord abAB", "lay none -", "laid none", "now none", "fall none",
            "fall cord", "merge cord none", "tied none", "tied cord none", "tying cord none", "tying cord cord none",
            "pull c", "pull b", "text", "drop none", "cut cord rest 0", "laid cord", "laid rest", "cut rest more 4",
            "bundles", "undo", "undo", "undo", "board 8", "undo", "text")],
            ["3", "-", "board 3 -", "nothing", "cord", "none", "-", "-", "=",
             "a b", "a b", "yes", "no", "a b", "=",
             "-", "cord", "board 3 bc ; rope cord abAB ; rope none -", "-", "rest", "-", "abAB", "more",
             "cord more rest", "undone", "undone", "undone", "8", "nothing", "board 8 -"])

    def test_the_board_can_be_used(self):
        desk = Desk()
        desk.say("board 2")
        first = desk.live
        self.assertIsInstance(first, Live)
        first.lay("cord", "ab")
        self.assertEqual(desk.say("now cord"), "ab")
        self.assertEqual(desk.say("board 1"), "1")
        self.assertEqual((str(first), str(desk.live)), ("board 2 -\nrope cord ab", "board 1 -"))
        self.assertIsNot(desk.live, first)
        self.assertEqual(desk.say(command="undo"), "nothing")
        self.assertIsNone(Desk().live)

    def test_many_titles(self):
        desk = Desk()
        desk.say("board 2")
        titles = [one + other for one in "abcd" for other in "abcd"]
        for title in titles:
            desk.say(f"lay {title} {'aB' * (len(title) + titles.index(title))}")
        self.assertEqual(desk.say("pull b"), " ".join(titles))
        self.assertEqual(desk.say("tied " + " ".join(titles)), "yes")
        self.assertEqual(desk.say("bundles"), " ; ".join(titles))
        self.assertEqual(desk.say("pull a"), " ".join(titles))
        self.assertEqual(desk.say("bundles"), " ".join(titles))
        self.assertEqual(desk.say("merge aa bb"), "=")


class TestErrors(unittest.TestCase):
    def setUp(self):
        self.desk = Desk()
        for command in ("board 2", "lay cord abAB", "lay line b", "pull b"):
            self.desk.say(command)
        self.live = self.desk.live
        self.before = state(self.live)

    def assert_error(self, command, error, name="", value=None):
        with self.assertRaises(error) as caught:
            self.desk.say(command)
        self.assertIs(type(caught.exception), error, command)
        if name:
            self.assertEqual(getattr(caught.exception, name), value, command)
        self.assertIs(self.desk.live, self.live)
        self.assertEqual(state(self.live), self.before)

    def test_no_forms(self):
        wrong = [*NO_STRINGS, "", " ", "  ", "\n", "Board 2", "BOARD 2", "undo ", " undo", "undo\n", "\nundo", "un do",
                 "lay cord  ab", "lay  cord ab", "lay cord ab ", "now cord\n", "now\ncord", "now\tcord", "nowcord",
                 "board -1", "board 01", "board 1000", "board a", "board +1", "board 1.", "board 00", "board \u0661",
                 "board 1 2", "cut cord new -1", "cut cord new 01", "cut cord new 1000", "cut cord new a",
                 "cut cord new",
                 "cut cord new \u00b2", "cut cord 1 new", "cut nowhere ? x", "tied", "tying", "tied ", "tied cord ",
                 "merge cord", "help", "-", "=", "lay", "live", "bundles ;", "text -", "least_fall cord",
                 "merging cord line"]
        for command in wrong:
            self.assert_error(command, InvalidCommand)

    def test_numbers_of_words(self):
        for word, form in FORMS.items():
            words = [word, *[WORDS[kind] for kind in form]]
            for length in range(len(words)):
                if length > 0:
                    self.assert_error(" ".join(words[:length]), InvalidCommand)
            if word not in ("tied", "tying"):
                self.assert_error(" ".join([*words, "cord"]), InvalidCommand)
                self.assert_error(" ".join([*words, "1"]), InvalidCommand)

    def test_no_board(self):
        for word, form in FORMS.items():
            desk = Desk()
            if word != "board":
                with self.assertRaises(InvalidCommand):
                    desk.say(" ".join([word, *[WORDS[kind] for kind in form]]))
                self.assertIsNone(desk.live)
        for command in ("board 9", "board 0", "board 999"):
            desk = Desk()
            with self.assertRaises(InvalidBoard):
                desk.say(command)
            self.assertIsNone(desk.live)

    def test_errors_of_the_board(self):
        for command, error, name, value in (
                ("board 0", InvalidBoard, "word", "posts"), ("board 9", InvalidBoard, "word", "posts"),
                ("board 999", InvalidBoard, "word", "posts"), ("lay Cord a?", InvalidBoard, "word", "title"),
                ("lay c a", InvalidBoard, "word", "title"), ("lay new a?", InvalidRow, "at", 1),
                ("lay new abc", InvalidRow, "at", 2), ("lay new --", InvalidRow, "at", 0),
                ("lay new a-", InvalidRow, "at", 1), ("splice - cord cord", InvalidBoard, "word", "title"),
                ("splice new none ?", NoRope, "title", "none"), ("splice new cord ?", NoRope, "title", "?"),
                ("turn ? none", InvalidBoard, "word", "title"), ("turn new none", NoRope, "title", "none"),
                ("cut none ? 999", NoRope, "title", "none"), ("cut cord cord 999", InvalidBoard, "word", "rest"),
                ("cut cord ? 0", InvalidBoard, "word", "rest"), ("cut cord new 5", Refused, "at", 4),
                ("cut line new 999", Refused, "at", 1), ("drop none", NoRope, "title", "none"),
                ("pull c", NoPost, "name", "c"), ("pull ab", NoPost, "name", "ab"), ("put A", NoPost, "name", "A"),
                ("pull b", Refused, "at", 1), ("put a", Refused, "at", 1), ("now none", NoRope, "title", "none"),
                ("laid -", NoRope, "title", "-"), ("tied none ?", NoRope, "title", "none"),
                ("tied cord line ?", NoRope, "title", "?"), ("tying ?", NoRope, "title", "?"),
                ("tying cord none", NoRope, "title", "none"), ("merge none ?", NoRope, "title", "none"),
                ("merge cord ?", NoRope, "title", "?"), ("fall Cord", NoRope, "title", "Cord")):
            self.assert_error(command, error, name, value)
        for title in TITLES:
            if title not in ("cord", "line"):
                self.assert_error("fall " + title, NoRope, "title", title)

    def test_objects(self):
        for wrong in (iter, list, len):
            with self.assertRaises(TypeError):
                wrong(self.desk)
        self.assertFalse(Desk() == Desk())


if __name__ == "__main__":
    unittest.main()
