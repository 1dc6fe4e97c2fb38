"""Live boards ([71] to [76])."""

import unittest

from ropesheld.errors import InvalidBoard, InvalidRow, InvalidText, NoPost, NoRope, Refused
from ropesheld.live import Live
from ropesheld.tying import tied
from tests.support import NO_STRINGS, all_lots, draws, drawn_row, least, no_rows, taken_out, turned

TITLES = ["ab", "cord", "line", "rope", "twine", "zz"]
NO_TITLES = [*NO_STRINGS, "", "a", "abcdef", "Ab", "aB", "a1", "a b", " ab", "ab\n", "a-", "\u00e4b", "-", "AB",
             "ab ", "??"]
NO_POST = [*NO_STRINGS, "", "A", "c", "h", "ab", "a ", "B", "?", "aa", b"a"]


class Told:
    """A board that is told by the test's own hand: laid rows, pulled posts, and what was ahead of each deed."""

    def __init__(self, posts):
        self.posts, self.laid, self.gone, self.past = posts, {}, set(), []

    def now(self, title, more=""):
        """The row of a rope now, with further posts pulled."""
        return taken_out("".join(sign for sign in self.laid[title] if sign.lower() not in {*self.gone, *more}))

    def do(self, change):
        """Do a deed and tell the titles that are new or whose row now is another one."""
        before = {title: self.now(title) for title in self.laid}
        self.past.append((dict(self.laid), set(self.gone)))
        change()
        return tuple(title for title in sorted(self.laid) if before.get(title) != self.now(title))

    def deed(self, name, words):
        """Do a deed with a name."""
        if name == "lay":
            return self.do(lambda: self.laid.update({words[0]: words[1]}))
        if name == "splice":
            return self.do(lambda: self.laid.update({words[0]: self.laid[words[1]] + self.laid[words[2]]}))
        if name == "turn":
            return self.do(lambda: self.laid.update({words[0]: turned(self.laid[words[1]])}))
        if name == "cut":
            row, many = self.laid[words[0]], words[2]
            return self.do(lambda: self.laid.update({words[0]: row[:many], words[1]: row[many:]}))
        if name == "drop":
            return self.do(lambda: self.laid.pop(words[0]))
        if name == "pull":
            return self.do(lambda: self.gone.add(words[0]))
        return self.do(lambda: self.gone.remove(words[0]))

    def undo(self):
        """Take the last deed back."""
        if not self.past:
            return False
        self.laid, self.gone = self.past.pop()
        return True

    def text(self):
        """The text of the board."""
        lines = [f"board {self.posts} {''.join(sorted(self.gone)) or '-'}"]
        return "\n".join(lines + [f"rope {title} {self.laid[title] or '-'}" for title in sorted(self.laid)])

    def lots(self, is_asked):
        """The least lots of standing posts of which something is so."""
        standing = [lot for lot in all_lots(self.posts) if not set(lot) & self.gone]
        return least([lot for lot in standing if is_asked(lot)])


def some_deed(drawn, told):
    """Some deed that can be done: its name and its arguments."""
    title, rest = TITLES[drawn(len(TITLES))], TITLES[drawn(len(TITLES))]
    kind, held = drawn(10), sorted(told.laid)
    if kind < 3 or not held:
        return "lay", (title, drawn_row(drawn, told.posts, drawn(9)))
    one, other = held[drawn(len(held))], held[drawn(len(held))]
    if kind == 3 and len(told.laid[one]) + len(told.laid[other]) < 60:
        return "splice", (title, one, other)
    if kind == 4:
        return "turn", (title, one)
    if kind == 5 and rest != one:
        return "cut", (one, rest, drawn(len(told.laid[one]) + 1))
    if kind == 6 and len(held) > 2:
        return "drop", (one,)
    post = "abcdefgh"[drawn(told.posts)]
    return ("put" if post in told.gone else "pull"), (post,)


def state(live):
    """All that can be told of a live board."""
    titles = live.titles()
    return (live.posts, live.gone, len(live), titles, str(live), live.bundles(), live.fallen(),
            tuple((live.laid(title), live.now(title)) for title in titles))


class TestDeeds(unittest.TestCase):
    def test_some_deeds_one_after_another(self):
        for seed in range(40):
            drawn = draws(710 + seed)
            posts = 1 + seed % 4
            live, told = Live(posts), Told(posts)
            for _ in range(30):
                if drawn(6) == 0:
                    self.assertIs(live.undo(), told.undo())
                else:
                    name, words = some_deed(drawn, told)
                    self.assertEqual(getattr(live, name)(*words), told.deed(name, words), (name, words))
                self.assert_same(live, told)
            for many in range(len(told.past), -1, -1):
                self.assertEqual(len(live), many)
                self.assertIs(live.undo(), told.undo())
                self.assert_same(live, told)

    def assert_same(self, live, told):
        self.assertEqual((live.posts, live.gone), (told.posts, "".join(sorted(told.gone))))
        self.assertEqual((live.titles(), str(live), len(live)), (tuple(sorted(told.laid)), told.text(), len(told.past)))
        bundles = {}
        for title in sorted(told.laid):
            self.assertEqual((live.laid(title), live.now(title)), (told.laid[title], told.now(title)))
            bundles.setdefault(told.now(title), []).append(title)
        self.assertEqual(live.bundles(), tuple(sorted(map(tuple, bundles.values()))))
        self.assertEqual(live.fallen(), tuple(bundles.get("", ())))
        again = Live.read(str(live))
        self.assertEqual((state(again)[:2], state(again)[3:]), (state(live)[:2], state(live)[3:]))
        self.assertEqual((len(again), again.undo()), (0, False))

    def test_titles_that_deeds_tell(self):
        live = Live(2)
        self.assertEqual((live.posts, live.gone, len(live), live.titles(), live.bundles(), live.fallen(), str(live)),
                         (2, "", 0, (), (), (), "board 2 -"))
        self.assertEqual((live.lay("cord", "abAB"), live.lay("cord", "aAabAB"), live.laid("cord")),
                         (("cord",), (), "aAabAB"))
        self.assertEqual((live.lay("none", ""), live.lay("none", "bB"), live.fallen()), (("none",), (), ("none",)))
        self.assertEqual((live.pull("b"), live.pull("a"), live.gone), (("cord",), (), "ab"))
        self.assertEqual((live.lay("none", "ab"), live.now("none"), live.laid("none")), ((), "", "ab"))
        self.assertEqual((live.put("b"), live.now("none"), live.put("a")), (("none",), "b", ("cord", "none")))
        self.assertEqual((live.drop("none"), live.titles(), len(live)), ((), ("cord",), 10))
        self.assertEqual((live.cut("cord", "rest", 3), live.laid("cord"), live.laid("rest")),
                         (("cord", "rest"), "aAa", "bAB"))
        self.assertEqual((live.cut("rest", "cord", 0), live.laid("rest"), live.laid("cord")),
                         (("cord", "rest"), "", "bAB"))
        self.assertEqual((live.cut("cord", "rest", 3), live.cut("cord", "rest", 0)), ((), ("cord", "rest")))
        self.assertEqual(live.splice("rest", "rest", "rest"), ("rest",))
        self.assertEqual((live.turn("rest", "rest"), live.laid("rest")), (("rest",), "baBbaB"))

    def test_deeds_that_tell_nothing_count(self):
        live = Live(3)
        for many, deed in enumerate([lambda: live.pull("c"), lambda: live.lay("ab", "c"), lambda: live.lay("ab", "c"),
                                     lambda: live.turn("ab", "ab"), lambda: live.drop("ab")], start=1):
            deed()
            self.assertEqual(len(live), many)
        for many in range(4, -1, -1):
            self.assertIs(live.undo(), True)
            self.assertEqual(len(live), many)
        self.assertEqual((live.undo(), live.undo(), len(live), str(live)), (False, False, 0, "board 3 -"))

    def test_all_posts_pulled(self):
        live = Live(8)
        live.lay("cord", "abcdefghABCDEFGH")
        live.lay("line", "h")
        for many, post in enumerate("hgfedcba"):
            self.assertEqual(len(live.gone), many)
            live.pull(post)
        self.assertEqual((live.gone, live.bundles(), live.fallen()),
                         ("abcdefgh", (("cord", "line"),), ("cord", "line")))
        self.assertEqual((live.merging("cord", "line"), live.least_fall("line"), live.tied("cord", []),
                          live.tying("cord", ()), live.cheapest("cord", "line", [1] * 8)),
                         (("",), ("",), True, ("",), (0, "")))
        self.assertEqual((live.put("h"), live.now("line")), (("line",), "h"))

    def test_sixty_deeds_on_sixteen_ropes(self):
        drawn, live, told = draws(760), Live(8), Told(8)
        titles = ["r" + letter for letter in "abcdefghijklmnop"]
        for title in titles:
            words = (title, drawn_row(drawn, 8, 120))
            self.assertEqual(live.lay(*words), told.deed("lay", words))
        for _ in range(44):
            post = "abcdefgh"[drawn(8)]
            name = "put" if post in told.gone else "pull"
            self.assertEqual(getattr(live, name)(post), told.deed(name, (post,)))
        self.assert_same(live, told)
        self.assertEqual(len(live), 60)
        one = live.merging("ra", "rb")
        self.assertEqual(one, told.lots(lambda lot: told.now("ra", lot) == told.now("rb", lot)))
        self.assertIn(live.tied("ra", titles[1:]), (True, False))
        lots = live.tying("ra", titles[1:])
        self.assertTrue(lots)
        for lot in lots:
            for post in lot:
                live.pull(post)
            self.assertTrue(live.tied("ra", titles[1:]))
            for _ in lot:
                live.undo()
        while live.undo():
            pass
        self.assertEqual(str(live), "board 8 -")


class TestQuestions(unittest.TestCase):
    def boards(self):
        for seed in range(30):
            drawn = draws(720 + seed)
            posts = 1 + seed % 4
            live, told = Live(posts), Told(posts)
            for _ in range(9):
                name, words = some_deed(drawn, told)
                getattr(live, name)(*words)
                told.deed(name, words)
            yield drawn, live, told

    def test_least_lots_by_trying_all(self):
        for drawn, live, told in self.boards():
            titles = sorted(told.laid)
            before = state(live)
            for one in titles:
                lots = told.lots(lambda lot: told.now(one, lot) == "")
                self.assertEqual(live.least_fall(one), lots)
                for other in titles:
                    lots = told.lots(lambda lot: told.now(one, lot) == told.now(other, lot))
                    self.assertEqual(live.merging(one, other), lots)
                    self.assert_cheapest(drawn, live, told, one, other)
                    others = [other, titles[drawn(len(titles))]][:1 + drawn(2)]
                    self.assert_tied(live, told, one, others)
                self.assert_tied(live, told, one, [])
            self.assertEqual(state(live), before)

    def assert_cheapest(self, drawn, live, told, one, other):
        prices = [drawn(4) for _ in range(told.posts)]
        sums = {lot: sum(prices["abcdefgh".index(post)] for post in lot) for lot in all_lots(told.posts)
                if not set(lot) & told.gone and told.now(one, lot) == told.now(other, lot)}
        cost = min(sums.values())
        first = next(lot for lot in all_lots(told.posts) if sums.get(lot) == cost)
        self.assertEqual(live.cheapest(one, other, prices), (cost, first))
        self.assertEqual(live.cheapest(one, other, tuple(prices)), (cost, first))

    def assert_tied(self, live, told, one, others):
        def is_tied(lot):
            return tied(told.posts, [told.now(other, lot) for other in others], told.now(one, lot)) is not None
        self.assertIs(live.tied(one, others), is_tied(""))
        self.assertEqual(live.tying(one, tuple(others)), told.lots(is_tied))

    def test_pulling_only_joins(self):
        for _, live, told in self.boards():
            for post in "abcd"[:told.posts]:
                if post not in told.gone:
                    before = live.bundles()
                    live.pull(post)
                    after = {title: at for at, titles in enumerate(live.bundles()) for title in titles}
                    for titles in before:
                        self.assertEqual(len({after[title] for title in titles}), 1)
                    told.gone.add(post)

    def test_order_of_pulling_does_not_matter(self):
        texts = set()
        for order in ("abc", "bca", "cab", "acb"):
            live = Live(3)
            live.lay("ab", "abcABC")
            live.lay("cd", "aabcc")
            for post in order[:2] + order[2]:
                live.pull(post)
            live.put("b")
            texts.add((str(live), live.bundles()))
        self.assertEqual(len(texts), 1)

    def test_cheapest_among_prices(self):
        live = Live(3)
        live.lay("one", "abAB")
        live.lay("other", "")
        for prices, told in (([1, 1, 1], (1, "a")), ([2, 1, 0], (1, "b")), ([0, 0, 0], (0, "a")),
                             ((5, 9, 0), (5, "a"))):
            self.assertEqual(live.cheapest("one", "other", prices), told)
        live.lay("other", "c")
        self.assertEqual(live.cheapest("one", "other", [3, 3, 1]), (4, "ac"))
        self.assertEqual(live.cheapest("one", "one", [3, 3, 1]), (0, ""))


class TestWithin(unittest.TestCase):
    def test_all_is_as_ahead(self):
        for seed in range(20):
            drawn, live, told = draws(740 + seed), Live(3), Told(3)
            for _ in range(drawn(9)):
                name, words = some_deed(drawn, told)
                getattr(live, name)(*words)
                told.deed(name, words)
            before = state(live)
            held = []

            def work(board):
                self.assertIs(board, live)
                for _ in range(drawn(12)):
                    if drawn(3) == 0:
                        self.assertIs(board.undo(), told.undo())
                    else:
                        name, words = some_deed(drawn, told)
                        self.assertEqual(getattr(board, name)(*words), told.deed(name, words))
                self.assertEqual(len(board), len(told.past))
                held.append(seed)
                return [seed, board]

            self.assertEqual(live.within(work), [seed, live])
            self.assertEqual((state(live), held), (before, [seed]))
            while live.undo():
                pass
            self.assertEqual(str(live), "board 3 -")

    def test_also_if_an_error_goes_on(self):
        live = Live(2)
        live.lay("cord", "abAB")
        live.pull("a")
        before = state(live)

        def work(board):
            board.undo()
            board.drop("cord")
            board.lay("line", "ba")
            board.pull("b")
            board.now("cord")

        with self.assertRaises(NoRope):
            live.within(work)
        self.assertEqual(state(live), before)
        for wrong in (ZeroDivisionError, KeyboardInterrupt):
            def further(board):
                board.undo()
                board.undo()
                raise wrong()
            with self.assertRaises(wrong):
                live.within(work=further)
            self.assertEqual(state(live), before)
        self.assertEqual((live.undo(), live.undo(), live.undo()), (True, True, False))

    def test_within_and_within(self):
        live = Live(2)
        live.lay("cord", "ab")

        def inner(board):
            board.lay("cord", "b")
            return state(board)

        def outer(board):
            board.pull("a")
            before = state(board)
            told = board.within(inner)
            self.assertEqual(state(board), before)
            self.assertNotEqual(told, before)
            return None

        before = state(live)
        self.assertIsNone(live.within(outer))
        self.assertEqual(state(live), before)

    def test_others_are_changed(self):
        live, other = Live(1), Live(1)
        live.within(lambda board: other.lay("ab", "a"))
        self.assertEqual((str(live), str(other), len(other)), ("board 1 -", "board 1 -\nrope ab a", 1))


class TestErrors(unittest.TestCase):
    def setUp(self):
        self.live = Live(2)
        self.live.lay("cord", "abAB")
        self.live.lay("line", "b")
        self.live.pull("b")
        self.before = state(self.live)

    def assert_error(self, called, error, name, value):
        with self.assertRaises(error) as caught:
            called()
        self.assertIs(type(caught.exception), error)
        kept = getattr(caught.exception, name)
        self.assertTrue(kept is value or kept == value and type(kept) is type(value), (kept, value))
        self.assertEqual(state(self.live), self.before)

    def test_boards(self):
        wrong = [value for value in NO_STRINGS if value is True or value not in (1, 7)]
        for posts in wrong + ["", "2", 9, -2, 10 ** 30]:
            self.assert_error(lambda: Live(posts), InvalidBoard, "word", "posts")
        for posts in range(1, 9):
            self.assertEqual(Live(posts).posts, posts)

    def test_new_titles(self):
        live = self.live
        for title in NO_TITLES:
            for row in ("ab", None, "?", "abc"):
                self.assert_error(lambda: live.lay(title, row), InvalidBoard, "word", "title")
            for one in ("cord", "none", None):
                self.assert_error(lambda: live.splice(title, one, "?"), InvalidBoard, "word", "title")
                self.assert_error(lambda: live.turn(title, one), InvalidBoard, "word", "title")

    def test_rows(self):
        for value, at in no_rows(2):
            self.assert_error(lambda: self.live.lay("cord", value), InvalidRow, "at", at)
            self.assert_error(lambda: self.live.lay("new", value), InvalidRow, "at", at)

    def test_no_rope(self):
        live = self.live
        for title in [*NO_TITLES, "none", "cords", "cor"]:
            for called in (
                    lambda: live.splice("new", title, "line"), lambda: live.splice("new", "cord", title),
                    lambda: live.splice("cord", title, None), lambda: live.turn("new", title),
                    lambda: live.cut(title, "new", 0), lambda: live.cut(title, None, None),
                    lambda: live.cut(title, title, 99), lambda: live.drop(title), lambda: live.laid(title),
                    lambda: live.now(title), lambda: live.merging(title, "cord"), lambda: live.merging("cord", title),
                    lambda: live.merging(title, "?"), lambda: live.least_fall(title),
                    lambda: live.cheapest(title, "?", None), lambda: live.cheapest("cord", title, None),
                    lambda: live.tied(title, ["?"]), lambda: live.tied("cord", [title, "?"]),
                    lambda: live.tied("cord", ("line", title)), lambda: live.tying(title, [None]),
                    lambda: live.tying("cord", ["cord", title, "?"])):
                self.assert_error(called, NoRope, "title", title)

    def test_cuts(self):
        live = self.live
        for rest in [*NO_TITLES, "cord"]:
            for many in (0, None, 99):
                self.assert_error(lambda: live.cut("cord", rest, many), InvalidBoard, "word", "rest")
        wrong = [value for value in NO_STRINGS if isinstance(value, bool) or value not in (0, 1)]
        for many in wrong + [5, -1, "1", 10 ** 20, ""]:
            for rest in ("line", "new"):
                self.assert_error(lambda: live.cut("cord", rest, many), Refused, "at", 4)
        self.assert_error(lambda: live.cut("line", "new", 2), Refused, "at", 1)

    def test_posts(self):
        live = self.live
        for post in NO_POST:
            self.assert_error(lambda: live.pull(post), NoPost, "name", post)
            self.assert_error(lambda: live.put(post), NoPost, "name", post)
        self.assert_error(lambda: live.pull("b"), Refused, "at", 1)
        self.assert_error(lambda: live.put("a"), Refused, "at", 1)
        live.pull("a")
        self.before = state(live)
        self.assert_error(lambda: live.pull("a"), Refused, "at", 2)
        live.put("a")
        live.put("b")
        self.before = state(live)
        self.assert_error(lambda: live.put("b"), Refused, "at", 0)


class TestTexts(unittest.TestCase):
    def test_read(self):
        for text in ("board 1 -", "board 8 abcdefgh", "board 3 ac\nrope cord abAB", "board 2 b\nrope ab -\nrope abc aA",
                     "board 2 -\nrope aa a\nrope ab a\nrope b" + "bbbb bB", "board 1 a\nrope zz " + "aA" * 60):
            live = Live.read(text)
            self.assertEqual((str(live), len(live), live.undo()), (text, 0, False))
        live = Live.read(text="board 3 ac\nrope cord abAB\nrope none -")
        self.assertEqual((live.posts, live.gone, live.laid("cord"), live.now("cord")), (3, "ac", "abAB", ""))
        self.assertEqual((live.laid("none"), live.bundles()), ("", (("cord", "none"),)))
        self.assertEqual((live.put("a"), live.gone, len(live)), (("cord",), "c", 1))
        self.assertEqual((live.put("c"), live.now("cord"), live.pull("b"), live.gone), ((), "abAB", ("cord",), "b"))

    def test_wrong_lines(self):
        good = "board 3 ac\nrope cord abAB\nrope line -"
        wrong = [(value, 0) for value in NO_STRINGS]
        wrong += [(text, 0) for text in (
            "", "board", "board 3", "board 3 ", "board 3 ca", "board 3 aa", "board 3 d", "board 0 -", "board 9 -",
            "board 03 -", "board 3 A", "board  3 -", " board 3 -", "board 3 - ", "Board 3 -", "board 3 -\r",
            "board a -",
            "board 3 -a", "rope cord abAB", "board 3 ac rope", "\n" + good, "board \u0663 -", "board 10 -",
            "board -1 -",
            "board 3 ac\t", "board 1 b", "board 12345678 -")]
        wrong += [(good + "\n" + line, 3) for line in (
            "", "rope", "rope more", "rope more ", "rope more abd?", "rope more d", "rope more aD", "rope more --",
            "rope More a", "rope m a", "rope moreee a", "rope line a", "rope cord a", "rope lin a", "rope zz a ",
            " rope zz a", "rope  zz a", "Rope zz a", "rope zz a b", "rope z1 a", "rope zz -a", "rope zz a\r", "zz a")]
        wrong += [("board 3 ac\nrope cord abAB\n\nrope line -", 2), ("board 3 ac\nrope line a\nrope cord a\nrope ?", 2),
                  ("board 3 ac\nrope", 1), ("board 3 ac\n", 1), ("board 2 a\nrope cord abcAB\nrope cord a", 1),
                  ("board 3 ca\nrope", 0), (good + "\n", 3), (good + "\nrope more a\nrope zz i\nrope yy a", 4)]
        for text, at in wrong:
            with self.assertRaises(InvalidText) as caught:
                Live.read(text)
            self.assertEqual(caught.exception.at, at, text)

    def test_long_texts(self):
        titles = ["t" + one + other for one in "abcde" for other in "abcde"]
        text = "board 8 -\n" + "\n".join(f"rope {title} {'abAB' * 27}" for title in titles)
        live = Live.read(text)
        self.assertEqual((str(live), live.bundles()), (text, (tuple(titles),)))


class TestObjects(unittest.TestCase):
    def test_not_iterable(self):
        live = Live(2)
        live.lay("ab", "a")
        for wrong in (iter, list, tuple, sorted):
            with self.assertRaises(TypeError):
                wrong(live)
        with self.assertRaises(TypeError):
            "ab" in live
        with self.assertRaises(TypeError):
            live[0]

    def test_attributes_are_set_at_once(self):
        self.assertEqual((Live(posts=3).posts, Live(posts=3).gone), (3, ""))

    def test_by_names_in_another_order(self):
        live = Live(posts=2)
        self.assertEqual(live.lay(row="abAB", title="cord"), ("cord",))
        self.assertEqual(live.splice(other="cord", title="both", one="cord"), ("both",))
        self.assertEqual(live.turn(one="cord", title="back"), ("back",))
        self.assertEqual(live.cut(many=1, rest="rest", title="both"), ("both", "rest"))
        self.assertEqual((live.laid(title="both"), live.now(title="rest")), ("a", "bABabAB"))
        self.assertEqual((live.pull(post="a"), live.put(post="a")), (("back", "both", "cord", "rest"),) * 2)
        self.assertEqual(live.merging(other="both", one="back"), ("a",))
        self.assertEqual(live.least_fall(title="cord"), ("a", "b"))
        self.assertEqual(live.cheapest(prices=(2, 3), other="both", one="back"), (2, "a"))
        self.assertEqual((live.tied(others=["cord"], title="back"), live.tying(others=("cord",), title="back")),
                         (True, ("",)))
        self.assertEqual((live.within(work=len), live.drop(title="rest")), (6, ()))

    def test_live_boards_do_not_share(self):
        one, other = Live(2), Live(2)
        one.lay("ab", "a")
        one.pull("a")
        self.assertEqual((str(other), len(other), other.gone), ("board 2 -", 0, ""))
        self.assertFalse(one == other)


if __name__ == "__main__":
    unittest.main()
