"""What holds for all functions and objects: the interface, arguments, errors and their order ([1] to [4])."""

import importlib
import inspect
import unittest

from ropesheld import errors
from ropesheld.houses import House
from ropesheld.rows import joined
from tests.support import CALLS, HOUSE, MODULES, NO_STRINGS, all_lots, function_of, wrongs_of

INTERFACE = {
    "rows": "reduced is_reduced turned joined times core windings without alike chain chain_holds",
    "walks": "points end back crossing_row walk_of plain_walk land meetings",
    "pushes": "alike_walks push_chain push_chain_holds",
    "houses": "House led_to swap_of is_still swap_rounds swap_order orbits beside paired stilled",
    "parting": "parting parting_holds",
    "homes": "house_ways way home_rows home_told home_joined",
    "forms": "house_form same_home parting_row many_forms forms",
    "folds": "folds fold_holds folded",
    "pulled": "falls falling holding needed spared falls_at sure_for",
    "wishes": "wish_of asks either both any_of bars rope_for keeps_wish together",
    "closed": "turns least_turn same_closed some_arm arm_holds least_arm root nth_part commute shared_root "
              "shared_power arm_for_all all_hold agree",
}

ROPE_ERRORS = {
    "InvalidRow": ["at"], "InvalidWalk": ["at"], "InvalidHouse": ["at"], "InvalidWish": ["at"], "InvalidWeb": ["word"],
    "InvalidMap": ["word"], "InvalidLead": ["at"], "InvalidText": ["at"], "InvalidBoard": ["word"],
    "InvalidCommand": [], "NoTrain": ["word"], "Refused": ["at"],
}
KEY_ERRORS = {"NoPost": ["name"], "NoRope": ["title"]}


class TestErrors(unittest.TestCase):
    def test_bases(self):
        self.assertEqual(errors.RopeError.__bases__, (ValueError,))
        for name in ROPE_ERRORS:
            self.assertEqual(getattr(errors, name).__bases__, (errors.RopeError,), name)
        for name in KEY_ERRORS:
            self.assertEqual(getattr(errors, name).__bases__, (KeyError,), name)

    def test_attributes_keep_the_arguments(self):
        anything = list(NO_STRINGS) + ["", "ab", object(), [1, [2]], {"a": 1}]
        for name, attributes in {**ROPE_ERRORS, **KEY_ERRORS}.items():
            made = getattr(errors, name)
            self.assertEqual(made.__module__, "ropesheld.errors")
            for value in anything:
                for error in (made(*[value for _ in attributes]), made(**{word: value for word in attributes})):
                    self.assertIsInstance(error, made)
                    for word in attributes:
                        self.assertIs(getattr(error, word), value)

    def test_base_can_be_raised(self):
        with self.assertRaises(errors.RopeError):
            raise errors.RopeError("told")
        with self.assertRaises(errors.RopeError):
            raise errors.InvalidCommand()

    def test_errors_are_not_iterable(self):
        for error in (errors.InvalidRow(0), errors.NoPost("a"), errors.InvalidCommand()):
            with self.assertRaises(TypeError):
                iter(error)


class TestInterface(unittest.TestCase):
    def test_all_names_are_defined_where_they_are_listed(self):
        for module, names in INTERFACE.items():
            held = importlib.import_module("ropesheld." + module)
            for name in names.split():
                self.assertEqual(getattr(held, name).__module__, "ropesheld." + module, name)

    def test_each_function_is_called_below(self):
        names = [name for listed in INTERFACE.values() for name in listed.split() if name != "House"]
        self.assertEqual(sorted(names), sorted(CALLS))

    def test_parameters(self):
        for name, (given, _) in CALLS.items():
            self.assertEqual(list(inspect.signature(function_of(name)).parameters), list(given), name)
        self.assertEqual(list(inspect.signature(House).parameters), ["swaps"])
        self.assertEqual(list(inspect.signature(House.read).parameters), ["text"])

    def test_by_position_and_by_names_in_another_order(self):
        for name, (given, _) in CALLS.items():
            function = function_of(name)
            told = function(*given.values())
            self.assertEqual(told, function(**given), name)
            self.assertEqual(told, function(**dict(reversed(given.items()))), name)
            half = len(given) // 2
            behind = dict(list(given.items())[half:][::-1])
            self.assertEqual(told, function(*list(given.values())[:half], **behind), name)

    def test_methods_stand_in_the_class(self):
        for name in ("__init__", "read", "__eq__", "__str__"):
            self.assertIn(name, vars(House))
        self.assertEqual(House(swaps=[[0]]), House.read(text="0"))


class TestValues(unittest.TestCase):
    def test_lists_are_as_good_as_tuples(self):
        for name, words in {"joined": ["rows"], "home_joined": ["told"], "wish_of": ["lots"], "folded": ["fold"],
                            "arm_for_all": ["ones", "others"], "all_hold": ["ones", "others"]}.items():
            given = CALLS[name][0]
            lists = {word: list(value) if word in words else value for word, value in given.items()}
            self.assertEqual(function_of(name)(**given), function_of(name)(**lists), name)
            self.assertEqual(lists, {word: list(value) if word in words else value for word, value in given.items()})
        self.assertEqual(House([[1, 0], (0, 1)]), House(((1, 0), [0, 1])))
        self.assertEqual(joined([]), joined(()))

    def test_sequences_that_are_returned_are_tuples(self):
        for name, (given, _) in CALLS.items():
            self.assert_tuples(function_of(name)(**given), name)
        self.assert_tuples(House([[1, 0], [0, 1]]).swaps, "swaps")

    def assert_tuples(self, value, name):
        self.assertIsInstance(value, (str, bool, int, tuple, House, type(None)), name)
        for part in value if isinstance(value, tuple) else ():
            self.assert_tuples(part, name)

    def test_whether_is_a_bool(self):
        names = ("is_reduced alike chain_holds alike_walks push_chain_holds is_still parting_holds same_home "
                 "fold_holds falls asks keeps_wish same_closed arm_holds commute all_hold").split()
        for name in names:
            self.assertIsInstance(function_of(name)(**CALLS[name][0]), bool, name)
            if "value" in CALLS[name][0]:
                for value in list(NO_STRINGS) + ["", "ab", "x"]:
                    self.assertIsInstance(function_of(name)(**{**CALLS[name][0], "value": value}), bool, name)

    def test_again_the_same(self):
        before = {name: function_of(name)(**given) for name, (given, _) in CALLS.items()}
        for name, (given, _) in reversed(CALLS.items()):
            self.assertEqual(before[name], function_of(name)(**given), name)

    def test_later_changes_have_no_effect(self):
        swaps = [[1, 0], [0, 1]]
        house = House(swaps)
        swaps[0][0], swaps[1] = 0, [1, 0]
        swaps.append([0, 1])
        self.assertEqual((house.swaps, house.posts, house.things, str(house)), (((1, 0), (0, 1)), 2, 2, "1 0 | 0 1"))

    def test_objects_are_not_iterable(self):
        for wrong in (iter, list, tuple, len):
            with self.assertRaises(TypeError):
                wrong(HOUSE)
        with self.assertRaises(TypeError):
            0 in HOUSE
        with self.assertRaises(TypeError):
            first, *rest = HOUSE

    def test_equal_to_nothing_of_another_class(self):
        for value in list(NO_STRINGS) + [HOUSE.swaps, str(HOUSE), list(HOUSE.swaps)]:
            if value is not HOUSE:
                self.assertFalse(HOUSE == value)
                self.assertTrue(HOUSE != value)


class TestWrongValues(unittest.TestCase):
    def assert_raises(self, name, given, wrong):
        with self.assertRaises(wrong[1]) as caught:
            function_of(name)(**given)
        self.assertIs(type(caught.exception), wrong[1], name)
        self.assertEqual((caught.exception.at, type(caught.exception.at)), (wrong[2], int), (name, wrong[0]))

    def test_each_wrong_argument(self):
        for name, (given, kinds) in CALLS.items():
            for word, kind in kinds.items():
                for wrong in wrongs_of(kind):
                    self.assert_raises(name, {**given, word: wrong[0]}, wrong)

    def test_the_first_wrong_argument_comes_first(self):
        for name, (given, kinds) in CALLS.items():
            words = list(kinds)
            for word, later in zip(words, words[1:]):
                for wrong in wrongs_of(kinds[word])[::3]:
                    for other in wrongs_of(kinds[later])[::4]:
                        self.assert_raises(name, {**given, word: wrong[0], later: other[0]}, wrong)

    def test_rows_come_ahead_of_all_else(self):
        for name, (given, kinds) in CALLS.items():
            if "value" in given and not {"wish", "walk"} & set(kinds.values()):
                for word in kinds:
                    self.assert_raises(name, {**given, word: "a?", "value": None}, ("a?", errors.InvalidRow, 1))

    def test_rows_within_sequences(self):
        for wrong in wrongs_of(8):
            for rows in ([wrong[0]], ["a", wrong[0]], ("ab", "", wrong[0], None)):
                self.assert_raises("joined", {"rows": rows}, wrong)
            self.assert_raises("arm_for_all", {"ones": ["a", wrong[0]], "others": [None, "b"]}, wrong)
            self.assert_raises("arm_for_all", {"ones": ["a", "b"], "others": [wrong[0], None]}, wrong)
            self.assert_raises("all_hold", {"ones": ["a", wrong[0]], "others": [None, "b"], "value": None}, wrong)
            self.assert_raises("all_hold", {"ones": ["a", "b"], "others": ["a", wrong[0]], "value": 1}, wrong)

    def test_posts_of_the_board_alone_are_signs(self):
        for name, (given, kinds) in CALLS.items():
            for word, posts in kinds.items():
                if posts in range(1, 8):
                    self.assert_raises(name, {**given, word: "aA" + "abcdefgh"[posts]}, ("", errors.InvalidRow, 2))

    def test_no_wish_of_any_board(self):
        for wish in [*NO_STRINGS, "a", "", ("b", "a"), ("i",), ("a", "ab"), ["a"], ("A",), ("h", "hi")]:
            if wish != ("a",):
                self.assert_raises("asks", {"wish": wish, "lot": "a"}, (wish, errors.InvalidWish, 0))
        self.assert_raises("bars", {"wish": ("",), "posts": 2}, (("",), errors.InvalidWish, 0))

    def test_no_lots(self):
        for lots in [None, 3, True, "", "a", [], (), HOUSE]:
            self.assert_raises("wish_of", {"lots": lots, "posts": 3}, (lots, errors.InvalidWish, 0))
        for value in [*NO_STRINGS, "ba", "aa", "A", "d", "abd", "a ", "acb", "i"]:
            for many, lots in enumerate([[value], ["a", value], ("ab", "", value, None), ["a", "a", "c", value, "ba"]]):
                self.assert_raises("wish_of", {"lots": lots, "posts": 3}, (lots, errors.InvalidWish, many))
        for lot in all_lots(8):
            self.assertEqual(function_of("wish_of")([lot], 8), (lot,))


class TestModules(unittest.TestCase):
    def test_modules_of_the_interface(self):
        self.assertEqual(["ropesheld." + name for name in INTERFACE], [module.__name__ for module in MODULES])


if __name__ == "__main__":
    unittest.main()
