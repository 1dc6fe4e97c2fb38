"""What holds for all functions and objects: the interface, arguments, errors and their order ([1] to [4])."""

import importlib
import inspect
import unittest

from ropesheld import errors
from ropesheld.desk import Desk
from ropesheld.houses import House
from ropesheld.live import Live
from ropesheld.maps import Map
from ropesheld.rows import joined
from ropesheld.webs import Web
from tests.support import (
    BOARD, CALLS, DESK, HOUSE, MODULES, NO_STRINGS, SLIDE, WEB, all_lots, function_of, wrongs_of)

INTERFACE = {
    "rows": "reduced is_reduced turned joined times core windings without alike chain chain_holds",
    "walks": "points end back crossing_row walk_of plain_walk land meetings",
    "pushes": "alike_walks push_chain push_chain_holds",
    "houses": "House led_to swap_of is_still swap_rounds swap_order orbits beside paired stilled",
    "parting": "parting parting_holds",
    "homes": "house_ways way home_rows home_told home_joined",
    "forms": "house_form same_home parting_row many_forms forms",
    "folds": "folds fold_holds folded",
    "pulled": "falls falling holding needed spared falls_at sure_for",
    "wishes": "wish_of asks either both any_of bars rope_for keeps_wish together",
    "closed": "turns least_turn same_closed some_arm arm_holds least_arm root nth_part commute shared_root "
              "shared_power arm_for_all all_hold agree",
    "webs": "Web",
    "tying": "tied tied_holds idle is_free rank base",
    "outside": "side_house side_holds",
    "meeting": "meet joined_web is_within moved mover",
    "sides": "side_of same_side sides all_sides",
    "maps": "Map plain_map turning_map led_after table",
    "undoing": "undone is_undone missed missed_holds turned_into turning_row",
    "shortening": "changes shortening is_shortest least_by_maps same_by_maps map_between between_holds is_free_part",
    "leads": "led_row images carried spots led_back same_leads first_parted are_images leads_for leads_hold left_leads "
             "crossings whole_round whole_rounds",
    "pairings": "pairing handles_of pairing_holds",
    "handles": "handles handle_pairs handle_pairs_hold handle_cut handle_cut_holds",
    "squares": "squares square_rows square_rows_hold",
    "sheets": "fall_together fall_together_holds",
    "series": "term terms depth commutator parting_depth parting_plain plain_parts",
    "basics": "is_basic basics many_basics basic_halves basic_rope",
    "depths": "leading collected collected_row bracket term_house",
    "trains": "turns_in turn_led is_smooth train_lot is_train train_holds trouble",
    "grown": "tallies long long_rest sign_led growth cycle windings_led windings_rest",
    "readings": "reading_rounds led_at home_times",
    "counting": "many_rows row_at number_of many_round many_classes many_roots",
    "fallcounts": "many_falling falling_at falling_number",
    "webcounts": "many_within within_at many_home home_at",
    "live": "Live",
    "desk": "Desk",
    "checker": "holds wrong_sheets sheet_back sheet_on knot_in",
}
CLASSES = {"House": House, "Web": Web, "Map": Map, "Live": Live, "Desk": Desk}
OBJECTS = (HOUSE, WEB, SLIDE, BOARD, DESK)
METHODS = {
    "House": {"__init__": ["swaps"], "read": ["text"], "__eq__": ["other"], "__str__": []},
    "Web": {"__init__": ["posts", "ropes"], "place_of": ["row"], "has": ["row"], "__eq__": ["other"]},
    "Map": {"__init__": ["posts", "rows"], "read": ["posts", "text"], "led": ["row"], "__eq__": ["other"],
            "__str__": []},
    "Live": {"__init__": ["posts"], "read": ["text"], "laid": ["title"], "now": ["title"], "titles": [],
             "lay": ["title", "row"], "splice": ["title", "one", "other"], "turn": ["title", "one"],
             "cut": ["title", "rest", "many"], "drop": ["title"], "pull": ["post"], "put": ["post"], "bundles": [],
             "fallen": [], "merging": ["one", "other"], "least_fall": ["title"],
             "cheapest": ["one", "other", "prices"], "tied": ["title", "others"], "tying": ["title", "others"],
             "undo": [], "within": ["work"], "__len__": [], "__str__": []},
    "Desk": {"__init__": [], "say": ["command"]},
}

ROPE_ERRORS = {
    "InvalidRow": ["at"], "InvalidWalk": ["at"], "InvalidHouse": ["at"], "InvalidWish": ["at"], "InvalidWeb": ["word"],
    "InvalidMap": ["word"], "InvalidLead": ["at"], "InvalidText": ["at"], "InvalidBoard": ["word"],
    "InvalidCommand": [], "NoTrain": ["word"], "Refused": ["at"],
}
KEY_ERRORS = {"NoPost": ["name"], "NoRope": ["title"]}

NO_POSTS = [value for value in NO_STRINGS if value is True or value not in (1, 7)] + ["", "2", 9, 10 ** 30, -2]
NO_ROWS = [value for value in NO_STRINGS if value != ("", "")] + ["", "ab", "a", {"a": 1}, {"a"}]
# Wrong arguments of a web and a map of two posts, and the name of the first one that is wrong.
NO_WEBS = [(posts, ropes, "posts") for posts in NO_POSTS for ropes in ([], ["a"], None, ["a", 1])]
NO_WEBS += [(2, ropes, "ropes") for ropes in NO_ROWS if ropes not in ([], (), ("a",), ["a"], ["a", "b"])]
NO_WEBS += [(2, ["ab", value], "ropes") for value in [*NO_STRINGS, "c", "ab?", "aC", " "]]
NO_MAPS = [(posts, rows, "posts") for posts in NO_POSTS for rows in (["a"], ["a", "b"], None, ["a", 1])]
NO_MAPS += [(2, rows, "rows") for rows in NO_ROWS if rows != ["a", "b"]]
NO_MAPS += [(2, ["ab", value], "rows") for value in [*NO_STRINGS, "c", "ab?", "aC", " ", "-"]]
NO_MAPS += [(2, rows, "rows") for rows in ([], ["a"], ("a", "b", "a"), ["a"] * 8)]
NO_MAPS += [(1, ["b"], "rows"), (8, ["a"] * 7, "rows"), (8, ["i"] * 8, "rows")]


class TestErrors(unittest.TestCase):
    def test_bases(self):
        self.assertEqual(errors.RopeError.__bases__, (ValueError,))
        for name in ROPE_ERRORS:
            self.assertEqual(getattr(errors, name).__bases__, (errors.RopeError,), name)
        for name in KEY_ERRORS:
            self.assertEqual(getattr(errors, name).__bases__, (KeyError,), name)

    def test_attributes_keep_the_arguments(self):
        anything = list(NO_STRINGS) + ["", "ab", object(), [1, [2]], {"a": 1}]
        for name, attributes in {**ROPE_ERRORS, **KEY_ERRORS}.items():
            made = getattr(errors, name)
            self.assertEqual(made.__module__, "ropesheld.errors")
            for value in anything:
                for error in (made(*[value for _ in attributes]), made(**{word: value for word in attributes})):
                    self.assertIsInstance(error, made)
                    for word in attributes:
                        self.assertIs(getattr(error, word), value)

    def test_base_can_be_raised(self):
        with self.assertRaises(errors.RopeError):
            raise errors.RopeError("told")
        with self.assertRaises(errors.RopeError):
            raise errors.InvalidCommand()

    def test_errors_are_not_iterable(self):
        for error in (errors.InvalidRow(0), errors.NoPost("a"), errors.InvalidCommand()):
            with self.assertRaises(TypeError):
                iter(error)


class TestInterface(unittest.TestCase):
    def test_all_names_are_defined_where_they_are_listed(self):
        for module, names in INTERFACE.items():
            held = importlib.import_module("ropesheld." + module)
            for name in names.split():
                self.assertEqual(getattr(held, name).__module__, "ropesheld." + module, name)

    def test_each_function_is_called_below(self):
        names = [name for listed in INTERFACE.values() for name in listed.split() if name not in CLASSES]
        self.assertEqual(sorted(names), sorted(CALLS))

    def test_parameters(self):
        for name, (given, _) in CALLS.items():
            self.assertEqual(list(inspect.signature(function_of(name)).parameters), list(given), name)
        for name, methods in METHODS.items():
            for method, words in methods.items():
                told = list(inspect.signature(getattr(CLASSES[name], method)).parameters)
                self.assertEqual([word for word in told if word != "self"], words, (name, method))

    def test_by_position_and_by_names_in_another_order(self):
        for name, (given, _) in CALLS.items():
            function = function_of(name)
            told = function(*given.values())
            self.assertEqual(told, function(**given), name)
            self.assertEqual(told, function(**dict(reversed(given.items()))), name)
            half = len(given) // 2
            behind = dict(list(given.items())[half:][::-1])
            self.assertEqual(told, function(*list(given.values())[:half], **behind), name)

    def test_methods_stand_in_the_class(self):
        for name, methods in METHODS.items():
            for method in methods:
                self.assertIn(method, vars(CLASSES[name]))

    def test_objects_and_methods_by_names(self):
        self.assertEqual(House(swaps=[[0]]), House.read(text="0"))
        web = Web(ropes=["abAB", "aab"], posts=2)
        self.assertEqual((web, web.place_of(row="ab"), web.has(row="aabbaBA")), (Web(2, ("abAB", "aab")), 4, True))
        self.assertEqual((web.place_of("ab"), web.has("aabbaBA")), (4, True))
        one = Map(rows=["ab", "b"], posts=2)
        self.assertEqual((one, one.led(row="aab"), one.led("aab")), (Map(2, ("ab", "b")), "ababb", "ababb"))
        self.assertEqual(Map.read(text="ab,b", posts=2), Map.read(2, "ab,b"))


class TestValues(unittest.TestCase):
    def test_lists_are_as_good_as_tuples(self):
        for name, words in {"joined": ["rows"], "home_joined": ["told"], "wish_of": ["lots"], "folded": ["fold"],
                            "arm_for_all": ["ones", "others"], "all_hold": ["ones", "others"], "tied": ["ropes"],
                            "tied_holds": ["ropes"], "idle": ["ropes"], "is_free": ["ropes"], "side_house": ["ropes"],
                            "side_holds": ["ropes"], "led_row": ["leads"], "images": ["leads"], "carried": ["leads"],
                            "spots": ["leads"], "led_back": ["leads"], "same_leads": ["one", "other"],
                            "first_parted": ["one", "other"], "left_leads": ["leads"], "crossings": ["leads"],
                            "whole_rounds": ["leads"], "fall_together": ["rows"], "fall_together_holds": ["rows"],
                            "collected_row": ["pairs"], "bracket": ["one", "other"], "wrong_sheets": ["sheets"],
                            "knot_in": ["sheets"]}.items():
            given = CALLS[name][0]
            lists = {word: list(value) if word in words else value for word, value in given.items()}
            self.assertEqual(function_of(name)(**given), function_of(name)(**lists), name)
            self.assertEqual(lists, {word: list(value) if word in words else value for word, value in given.items()})
        self.assertEqual(House([[1, 0], (0, 1)]), House(((1, 0), [0, 1])))
        self.assertEqual((Web(2, ["ab", "b"]), Map(2, ["ab", "b"])), (Web(2, ("ab", "b")), Map(2, ("ab", "b"))))
        self.assertEqual(joined([]), joined(()))

    def test_sequences_that_are_returned_are_tuples(self):
        for name, (given, _) in CALLS.items():
            self.assert_tuples(function_of(name)(**given), name)
        for value in (HOUSE.swaps, WEB.ties, SLIDE.rows):
            self.assertIsInstance(value, tuple)
            self.assert_tuples(value, "attributes")

    def assert_tuples(self, value, name):
        self.assertIsInstance(value, (str, bool, int, tuple, *CLASSES.values(), type(None)), name)
        for part in value if isinstance(value, tuple) else ():
            self.assert_tuples(part, name)

    def test_whether_is_a_bool(self):
        names = ("is_reduced alike chain_holds alike_walks push_chain_holds is_still parting_holds same_home "
                 "fold_holds falls asks keeps_wish same_closed arm_holds commute all_hold tied_holds is_free "
                 "side_holds is_within same_side is_undone missed_holds is_shortest same_by_maps between_holds "
                 "is_free_part same_leads are_images leads_hold pairing_holds handle_pairs_hold handle_cut_holds "
                 "square_rows_hold fall_together_holds plain_parts is_basic is_smooth is_train train_holds "
                 "holds")
        for name in names.split():
            self.assertIsInstance(function_of(name)(**CALLS[name][0]), bool, name)
            if "value" in CALLS[name][0]:
                for value in list(NO_STRINGS) + ["", "ab", "x"]:
                    self.assertIsInstance(function_of(name)(**{**CALLS[name][0], "value": value}), bool, name)

    def test_again_the_same(self):
        before = {name: function_of(name)(**given) for name, (given, _) in CALLS.items()}
        for name, (given, _) in reversed(CALLS.items()):
            self.assertEqual(before[name], function_of(name)(**given), name)

    def test_later_changes_have_no_effect(self):
        swaps = [[1, 0], [0, 1]]
        house = House(swaps)
        swaps[0][0], swaps[1] = 0, [1, 0]
        swaps.append([0, 1])
        self.assertEqual((house.swaps, house.posts, house.things, str(house)), (((1, 0), (0, 1)), 2, 2, "1 0 | 0 1"))
        rows = ["ab", "b"]
        web, one = Web(2, rows), Map(2, rows)
        rows[0] = "A"
        rows.append("a")
        self.assertEqual((web.ties, web.size, web.posts), (((0, "a", 0), (0, "b", 0)), 1, 2))
        self.assertEqual((one.rows, one.posts, str(one), one.led("a")), (("ab", "b"), 2, "ab,b", "ab"))

    def test_objects_are_not_iterable(self):
        for held in OBJECTS:
            # Only a live board has a length.
            for wrong in (iter, list, tuple, iter if held is BOARD else len):
                with self.assertRaises(TypeError):
                    wrong(held)
            with self.assertRaises(TypeError):
                0 in held
            with self.assertRaises(TypeError):
                first, *rest = held

    def test_equal_to_nothing_of_another_class(self):
        told = [HOUSE.swaps, str(HOUSE), list(HOUSE.swaps), WEB.ties, (2, WEB.ties), SLIDE.rows, (2, SLIDE.rows)]
        for held in OBJECTS:
            for value in [*NO_STRINGS, *told, str(SLIDE), *OBJECTS]:
                if value is not held:
                    self.assertFalse(held == value)
                    self.assertTrue(held != value)


class TestWrongValues(unittest.TestCase):
    def assert_raises(self, name, given, wrong):
        with self.assertRaises(wrong[1]) as caught:
            function_of(name)(**given)
        self.assertIs(type(caught.exception), wrong[1], name)
        self.assertEqual((caught.exception.at, type(caught.exception.at)), (wrong[2], int), (name, wrong[0]))

    def test_each_wrong_argument(self):
        for name, (given, kinds) in CALLS.items():
            for word, kind in kinds.items():
                for wrong in wrongs_of(kind):
                    self.assert_raises(name, {**given, word: wrong[0]}, wrong)

    def test_the_first_wrong_argument_comes_first(self):
        for name, (given, kinds) in CALLS.items():
            words = list(kinds)
            for word, later in zip(words, words[1:]):
                for wrong in wrongs_of(kinds[word])[::3]:
                    for other in wrongs_of(kinds[later])[::4]:
                        self.assert_raises(name, {**given, word: wrong[0], later: other[0]}, wrong)

    def test_rows_come_ahead_of_all_else(self):
        for name, (given, kinds) in CALLS.items():
            if "value" in given and not {"wish", "walk"} & set(kinds.values()):
                for word in kinds:
                    self.assert_raises(name, {**given, word: "a?", "value": None}, ("a?", errors.InvalidRow, 1))

    def test_rows_within_sequences(self):
        for wrong in wrongs_of(8):
            for rows in ([wrong[0]], ["a", wrong[0]], ("ab", "", wrong[0], None)):
                self.assert_raises("joined", {"rows": rows}, wrong)
            self.assert_raises("arm_for_all", {"ones": ["a", wrong[0]], "others": [None, "b"]}, wrong)
            self.assert_raises("arm_for_all", {"ones": ["a", "b"], "others": [wrong[0], None]}, wrong)
            self.assert_raises("all_hold", {"ones": ["a", wrong[0]], "others": [None, "b"], "value": None}, wrong)
            self.assert_raises("all_hold", {"ones": ["a", "b"], "others": ["a", wrong[0]], "value": 1}, wrong)
            for rows in ([wrong[0]], ["a", wrong[0]], ("ab", "B", wrong[0], None), ["abAB", wrong[0], "a?"]):
                self.assert_raises("fall_together", {"rows": rows}, wrong)
                self.assert_raises("fall_together_holds", {"rows": rows, "value": None}, wrong)

    def test_posts_of_the_board_alone_are_signs(self):
        for name, (given, kinds) in CALLS.items():
            for word, posts in kinds.items():
                if posts in range(1, 8):
                    self.assert_raises(name, {**given, word: "aA" + "abcdefgh"[posts]}, ("", errors.InvalidRow, 2))

    def test_rows_come_ahead_of_posts_and_ropes(self):
        for posts, ropes in ((None, 0), (9, ["a"]), (2, "ab"), (2, ["c"]), (True, []), ("a", None), (0, ())):
            for name in ("tied", "tied_holds", "side_house", "side_holds"):
                for value, error, at in wrongs_of(8):
                    given = {**CALLS[name][0], "posts": posts, "ropes": ropes, "row": value}
                    self.assert_raises(name, given, (value, error, at))
        for posts in (None, 0, 9, True, "a"):
            self.assert_raises("turning_map", {"posts": posts, "row": "a?"}, ("a?", errors.InvalidRow, 1))

    def test_no_told_ropes(self):
        for posts, ropes, word in NO_WEBS:
            for name in ("tied", "tied_holds", "side_house", "side_holds", "idle", "is_free"):
                given = {word: value for word, value in CALLS[name][0].items() if word != "row"}
                given = {**given, "posts": posts, "ropes": ropes}
                if "row" in CALLS[name][0]:
                    given["row"] = "aA"
                self.assert_word(function_of(name), given, errors.InvalidWeb, word)
            self.assert_word(Web, {"posts": posts, "ropes": ropes}, errors.InvalidWeb, word)

    def test_no_maps(self):
        for posts, rows, word in NO_MAPS:
            self.assert_word(Map, {"posts": posts, "rows": rows}, errors.InvalidMap, word)
        for posts in NO_POSTS:
            self.assert_word(Map.read, {"posts": posts, "text": "a"}, errors.InvalidMap, "posts")
            self.assert_word(function_of("plain_map"), {"posts": posts}, errors.InvalidMap, "posts")
            self.assert_word(function_of("turning_map"), {"posts": posts, "row": "a"}, errors.InvalidMap, "posts")

    def assert_word(self, made, given, error, word):
        with self.assertRaises(errors.RopeError) as caught:
            made(**given)
        self.assertIs(type(caught.exception), error, given)
        self.assertEqual(caught.exception.word, word, given)

    def test_leads_come_ahead_of_rows_and_posts(self):
        for value, error, at in wrongs_of("leads"):
            self.assert_raises("led_row", {"posts": 3, "leads": value, "row": "a?"}, (value, error, at))
            self.assert_raises("left_leads", {"posts": 3, "leads": value, "post": None}, (value, error, at))

    def test_no_post(self):
        for post in [*NO_STRINGS, "", "A", "d", "ab", "abc", "a ", "1", b"a"]:
            with self.assertRaises(errors.NoPost) as caught:
                function_of("left_leads")(posts=3, leads=[1, 2], post=post)
            self.assertEqual((type(caught.exception), caught.exception.name), (errors.NoPost, post))

    def test_leads_of_so_many_posts_alone(self):
        for posts in range(1, 9):
            for lead in (posts, -posts, 0, posts + 5):
                for leads in ([lead], [*range(1, posts), lead], (*range(1 - posts, 0), lead, None)):
                    given = {"posts": posts, "leads": leads}
                    wrong = (leads, errors.InvalidLead, leads.index(lead))
                    for name in ("images", "carried", "spots", "crossings", "whole_rounds"):
                        self.assert_raises(name, given, wrong)
                    self.assert_raises("led_row", {**given, "row": "a"}, wrong)
                    self.assert_raises("left_leads", {**given, "post": "a"}, wrong)
                    for name in ("same_leads", "first_parted"):
                        self.assert_raises(name, {"posts": posts, "one": leads, "other": None}, wrong)
                        self.assert_raises(name, {"posts": posts, "one": [], "other": leads}, wrong)

    def test_no_rows_for_methods(self):
        for called in (WEB.place_of, WEB.has, SLIDE.led):
            for value, error, at in wrongs_of(2):
                with self.assertRaises(error) as caught:
                    called(value)
                self.assertEqual((caught.exception.at, type(caught.exception.at)), (at, int), value)

    def test_rows_of_one_post(self):
        for name in ("shortening", "is_shortest", "least_by_maps", "is_free_part"):
            self.assert_raises(name, {"row": "aAb", "posts": 1}, ("aAb", errors.InvalidRow, 2))
        for name in ("same_by_maps", "map_between", "between_holds"):
            given = {"value": None} if name == "between_holds" else {}
            self.assert_raises(name, {"one": "ab", "other": "b", "posts": 1, **given}, ("ab", errors.InvalidRow, 1))
            self.assert_raises(name, {"one": "a", "other": "aab", "posts": 1, **given}, ("aab", errors.InvalidRow, 2))

    def test_no_wish_of_any_board(self):
        for wish in [*NO_STRINGS, "a", "", ("b", "a"), ("i",), ("a", "ab"), ["a"], ("A",), ("h", "hi")]:
            if wish != ("a",):
                self.assert_raises("asks", {"wish": wish, "lot": "a"}, (wish, errors.InvalidWish, 0))
        self.assert_raises("bars", {"wish": ("",), "posts": 2}, (("",), errors.InvalidWish, 0))

    def test_no_lots(self):
        for lots in [None, 3, True, "", "a", [], (), HOUSE]:
            self.assert_raises("wish_of", {"lots": lots, "posts": 3}, (lots, errors.InvalidWish, 0))
        for value in [*NO_STRINGS, "ba", "aa", "A", "d", "abd", "a ", "acb", "i"]:
            for many, lots in enumerate([[value], ["a", value], ("ab", "", value, None), ["a", "a", "c", value, "ba"]]):
                self.assert_raises("wish_of", {"lots": lots, "posts": 3}, (lots, errors.InvalidWish, many))
        for lot in all_lots(8):
            self.assertEqual(function_of("wish_of")([lot], 8), (lot,))


class TestModules(unittest.TestCase):
    def test_modules_of_the_interface(self):
        self.assertEqual(["ropesheld." + name for name in INTERFACE], [module.__name__ for module in MODULES])


if __name__ == "__main__":
    unittest.main()
