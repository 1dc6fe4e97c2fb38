"""Series of rows, basic rows, and depths ([54] to [59])."""

import unittest
from itertools import product

from ropesheld.basics import basic_halves, basic_rope, basics, is_basic, many_basics
from ropesheld.depths import bracket, collected, collected_row, leading, term_house
from ropesheld.errors import InvalidRow
from ropesheld.houses import House, led_to
from ropesheld.pulled import falls
from ropesheld.rows import times
from ropesheld.series import commutator, depth, parting_depth, parting_plain, plain_parts, term, terms
from ropesheld.wishes import any_of, rope_for
from tests.support import NO_STRINGS, all_rows, draws, drawn_row, reduced_rows, taken_out, turned


def told_series(row, degree):
    """The numbers of all plain rows of at most so many signs, by multiplying the sums sign by sign."""
    series = {"": 1}
    for sign in row:
        post = sign.lower()
        many = range(2) if sign == post else range(degree + 1)
        step = {post * times: 1 if sign == post or times % 2 == 0 else -1 for times in many}
        further = {}
        for plain, number in series.items():
            for more, other in step.items():
                if len(plain + more) <= degree:
                    further[plain + more] = further.get(plain + more, 0) + number * other
        series = further
    return {plain: number for plain, number in series.items() if number}


def plains(posts, degree):
    """All plain rows of just so many signs, ascending."""
    return ["".join(signs) for signs in product("abcdefgh"[:posts], repeat=degree)]


def told_basic(plain):
    """Whether a plain row is less than each of its not empty ends but itself."""
    return plain != "" and all(plain < plain[at:] for at in range(1, len(plain)))


def between(one, other):
    """The reduced row of the one, the other, the one turned, the other turned."""
    return taken_out(one + other + turned(one) + turned(other))


def told_rope(plain):
    """The rope of a basic row."""
    if len(plain) == 1:
        return plain
    at = next(at for at in range(1, len(plain)) if told_basic(plain[at:]))
    return between(told_rope(plain[:at]), told_rope(plain[at:]))


def told_product(pairs):
    """The row of the ropes of basic rows, so many times each, not reduced."""
    return "".join(told_rope(plain) * many if many > 0 else turned(told_rope(plain)) * -many for plain, many in pairs)


def part_deeper(one, other, degree):
    """Whether two rows part deeper than a degree, or are alike."""
    return told_series(one, degree) == told_series(other, degree)


drawn = draws(541)
ROWS = all_rows(2, 3) + [drawn_row(drawn, posts, length) for posts in (1, 2, 2, 3, 4) for length in (5, 8, 12, 20)]
DEEP = ["", "abAB", "baBA", "aabABABA", "abABaBAb", between("abAB", "a"), between("abAB", "cdCD"), between("ab", "aab"),
        between(between("ab", "b"), "abAB"), between("aabb", "abab"), between("a" * 9, "b" * 4), "cHcHhC",
        between(between("abAB", "b"), "aaB"), "ab" + between("ca", "bb") + "BA", "abcABC", "aabbAABB"]


class TestTerms(unittest.TestCase):
    def test_numbers_of_all_plain_rows(self):
        for row in ROWS + DEEP:
            series = told_series(row, 4)
            for degree in range(5):
                told = tuple((plain, number) for plain, number in sorted(series.items()) if len(plain) == degree)
                self.assertEqual(terms(row, degree), told, row)
            for plain in [plain for degree in range(4) for plain in plains(3, degree)] + ["abab", "h", "aabba"]:
                self.assertEqual(term(row, plain), told_series(row, len(plain)).get(plain, 0))

    def test_no_terms(self):
        for row in ("", "aA", "abBA"):
            self.assertEqual((terms(row, 0), terms(row, 1), terms(row, 60), depth(row)), ((("", 1),), (), (), None))
            self.assertEqual((term(row, ""), term(row, "a"), term(row, "hgh")), (1, 0, 0))
        self.assertEqual(terms("abAB", 0), (("", 1),))

    def test_alike_rows_have_one_series(self):
        for row in ROWS[::3]:
            for pair in ("aA", "Bb", "cC"):
                for at in range(0, len(row) + 1, 3):
                    self.assertEqual(terms(row[:at] + pair + row[at:], 3), terms(row, 3))
                    self.assertEqual(term(row[:at] + pair + row[at:], "aba"), term(row, "aba"))

    def test_far(self):
        self.assertEqual(terms("a" * 300, 60)[0][1], told_choose(300, 60))
        self.assertEqual(terms("A" * 300, 59)[0][1], -told_choose(358, 59))
        self.assertEqual(term("a" * 300, "a" * 300), 1)
        self.assertEqual(term("ab" * 150, "ab" * 75), told_ways("ab" * 150, "ab" * 75))
        some = draws(542)
        for posts, degree in ((2, 12), (3, 7), (4, 6), (5, 5), (8, 4)):
            row = drawn_row(some, posts, 300)
            told = terms(row, degree)
            self.assertEqual([plain for plain, _ in told], sorted(plain for plain, _ in told))
            for plain, number in told[::397]:
                self.assertEqual((term(row, plain), number != 0, len(plain)), (number, True, degree))
        self.assertEqual(term(times("abAB", 1000), "ab"), 1000)

    def test_places_of_wrong_signs(self):
        for value, at in (("A", 0), ("aA", 1), ("aA?", 2), ("?A", 0), ("abcH", 3), ("aAi", 2), (None, 0), (("a",), 0)):
            for called in (is_basic, basic_halves, basic_rope, lambda plain: term("a", plain),
                           lambda plain: term_house(8, plain, 2)):
                with self.assertRaises(InvalidRow) as caught:
                    called(value)
                self.assertEqual(caught.exception.at, at)
        for row, plain, at in (("a?", "A", 1), (None, "?", 0), ("ab", "bA", 1)):
            with self.assertRaises(InvalidRow) as caught:
                term(row, plain)
            self.assertEqual(caught.exception.at, at)
        for plain, at in (("abc", 2), ("Bc", 1), ("aB", 1), ("c", 0)):
            with self.assertRaises(InvalidRow) as caught:
                term_house(2, plain, 2)
            self.assertEqual(caught.exception.at, at)


def told_choose(many, some):
    """How many lots of so many of many things there are."""
    found = 1
    for at in range(some):
        found = found * (many - at) // (at + 1)
    return found


def told_ways(row, plain):
    """How often the signs of a plain row stand in a row without capitals, in order."""
    ways = [1] + [0] * len(plain)
    for sign in row:
        for at in range(len(plain), 0, -1):
            ways[at] += ways[at - 1] if plain[at - 1] == sign else 0
    return ways[-1]


class TestDepth(unittest.TestCase):
    def test_least_degree_with_terms(self):
        for row in ROWS + DEEP:
            deep = depth(row)
            if taken_out(row) == "":
                self.assertIsNone(deep)
            else:
                self.assertLessEqual(1, deep)
                self.assertLessEqual(deep, len(taken_out(row)))
                self.assertEqual(set(told_series(row, deep - 1)), {""})
                self.assertTrue(terms(row, deep))
                self.assertTrue(any(len(plain) == deep for plain in told_series(row, deep)))

    def test_alike_depths(self):
        for row in [row for row in ROWS + DEEP if taken_out(row)][::2]:
            deep = depth(row)
            self.assertEqual(deep, depth(turned(row)))
            self.assertEqual(deep, depth(row * 3))
            self.assertEqual(deep, depth("abC" + row + "cBA"))
            self.assertEqual(deep == 1, any(row.count(post) != row.count(post.upper()) for post in "abcdefgh"))

    def test_commutators_are_deep(self):
        for one in DEEP + ROWS[::7]:
            for other in DEEP[:9]:
                row = commutator(one, other)
                self.assertEqual(row, between(one, other))
                if row:
                    self.assertGreaterEqual(depth(row), depth(one) + depth(other))

    def test_who_falls_by_each_of_some_posts_is_as_deep(self):
        for posts in (2, 3, 4):
            row = rope_for(any_of(posts, 1), posts)
            self.assertTrue(all(falls(row, post) for post in "abcd"[:posts]))
            self.assertGreaterEqual(depth(row), posts)

    def test_far_depths(self):
        row = "abAB"
        for deep in range(3, 9):
            row = between(row, "ab"[deep % 2])
            self.assertEqual(depth(row), deep)
        self.assertEqual(depth(basic_rope("aababaabbabb")), 12)
        self.assertEqual((depth("H" * 300), depth("hG" * 150), depth("abcdefghABCDEFGH" * 18)), (1, 1, 2))

    def test_partings(self):
        rows = reduced_rows(2, 2) + DEEP[::2] + ["abABba", "baabAB"]
        for one, other in product(rows, repeat=2):
            deep, least = parting_depth(one, other), parting_plain(one, other)
            self.assertEqual(deep, depth(one + turned(other)))
            if taken_out(one) == taken_out(other):
                self.assertEqual((deep, least), (None, None))
            else:
                ones, others = told_series(one, deep), told_series(other, deep)
                told = [plain for plain in sorted({*ones, *others}, key=lambda plain: (len(plain), plain))
                        if ones.get(plain, 0) != others.get(plain, 0)]
                self.assertEqual((least, len(least)), (told[0], deep))
                self.assertTrue(plain_parts(one, other, least))
        self.assertEqual((parting_plain("ab", "ba"), parting_plain("g", "h"), parting_plain("", "H")), ("ab", "g", "h"))

    def test_plain_parts(self):
        for one, other in (("ab", "ba"), ("abAB", ""), ("aab", "aba"), ("aA", "bB"), ("c", "a")):
            for plain in [plain for degree in range(4) for plain in plains(3, degree)]:
                told = told_series(one, 3).get(plain, 0) != told_series(other, 3).get(plain, 0)
                self.assertEqual(plain_parts(one, other, plain), told)
        self.assertTrue(plain_parts("ab", "ba", "ab"))
        for value in [*NO_STRINGS, "", "aB", "AB", "ab?", "i", " ", "h", "aba", ("ab",), ["ab"]]:
            self.assertFalse(plain_parts("ab", "ba", value) if value != "aba" else False, value)
        for value in [*NO_STRINGS, "A", "aA"]:
            self.assertFalse(plain_parts("A", "a", value), value)


class TestBasics(unittest.TestCase):
    def test_all_of_them(self):
        for posts, degrees in ((1, 8), (2, 8), (3, 6), (4, 5), (8, 3)):
            for degree in range(degrees + 1):
                told = tuple(plain for plain in plains(posts, degree) if told_basic(plain))
                self.assertEqual(basics(posts, degree), told)
                self.assertEqual(many_basics(posts, degree), len(told))
        self.assertEqual((basics(2, 0), many_basics(2, 0), many_basics(1, 1), many_basics(1, 2)), ((), 0, 1, 0))
        self.assertEqual((len(basics(8, 4)), len(basics(2, 12)), many_basics(2, 12)), (many_basics(8, 4), 335, 335))

    def test_is_basic(self):
        for plain in [plain for degree in range(6) for plain in plains(3, degree)]:
            self.assertEqual(is_basic(plain), told_basic(plain))
        self.assertTrue(is_basic("a" * 299 + "b"))
        self.assertFalse(is_basic("ab" * 150))
        self.assertTrue(is_basic("fgh"))

    def test_far_numbers(self):
        for posts in (1, 2, 3, 8):
            for degree in (9, 12, 30, 60, 97, 1000):
                # Each row is a power of one of so many turns of a basic row.
                total = sum(part * many_basics(posts, part) for part in range(1, degree + 1) if degree % part == 0)
                self.assertEqual(total, posts ** degree)

    def test_halves(self):
        for plain in [plain for degree in range(2, 8) for plain in basics(2, degree) + basics(3, min(degree, 5))]:
            row, rest = basic_halves(plain)
            self.assertEqual(row + rest, plain)
            self.assertTrue(told_basic(row) and told_basic(rest))
            self.assertFalse(any(told_basic(plain[at:]) for at in range(1, len(row))))
        self.assertEqual(basic_halves("gh"), ("g", "h"))
        self.assertEqual(basic_halves("a" * 200 + "b"), ("a", "a" * 199 + "b"))

    def test_ropes(self):
        for plain in [plain for degree in range(1, 7) for plain in basics(2, degree)] + ["h", "cg", "abc", "acb"]:
            rope = basic_rope(plain)
            self.assertEqual(rope, told_rope(plain))
            # The terms at its depth are the basic row once, and greater rows.
            self.assertEqual(depth(rope), len(plain))
            self.assertEqual(terms(rope, len(plain))[0], (plain, 1))

    def test_rows_that_are_not_basic_or_too_short(self):
        for called, wrong in ((basic_halves, ["", "a", "h", "ba", "aa", "abab", "b" * 300]),
                              (basic_rope, ["", "ba", "aa", "abab", "cb"])):
            for plain in wrong:
                with self.assertRaises(InvalidRow) as caught:
                    called(plain)
                self.assertEqual(caught.exception.at, 0)


class TestDepths(unittest.TestCase):
    def test_leading(self):
        for row in ROWS + DEEP:
            told, deep = leading(row), depth(row)
            if deep is None:
                self.assertEqual(told, ())
            else:
                self.assertTrue(told)
                self.assertEqual([plain for plain, _ in told], sorted({plain for plain, _ in told}))
                self.assertTrue(all(told_basic(plain) and len(plain) == deep and many for plain, many in told))
                self.assertTrue(part_deeper(row, told_product(told), deep))
        self.assertEqual((leading("hG"), leading("gggG"), leading("ab" * 150)),
                         ((("g", -1), ("h", 1)), (("g", 2),), (("a", 150), ("b", 150))))

    def test_collected(self):
        for row in ROWS[::2] + DEEP:
            for degree in range(5):
                told = collected(row, degree)
                keys = [(len(plain), plain) for plain, _ in told]
                self.assertEqual(keys, sorted(set(keys)))
                self.assertTrue(all(told_basic(plain) and len(plain) <= degree and many for plain, many in told))
                self.assertTrue(part_deeper(row, told_product(told), degree))
                deep = depth(row)
                if deep is not None and deep <= degree:
                    self.assertEqual(tuple(pair for pair in told if len(pair[0]) == deep), leading(row))
                    self.assertEqual(len(told[0][0]), deep)

    def test_collected_is_one_thing(self):
        rows = reduced_rows(2, 3)
        some = draws(543)
        for _ in range(150):
            one, other = rows[some(len(rows))], rows[some(len(rows))]
            further = other + between("ab"[some(2)], "bA" * some(3)) if some(2) else other
            for degree in (1, 2, 3, 4):
                self.assertEqual(collected(one, degree) == collected(further, degree),
                                 part_deeper(one, further, degree))

    def test_collected_row(self):
        some = draws(544)
        for posts, degree in ((2, 5), (3, 4), (4, 3), (1, 1)):
            words = [plain for length in range(1, degree + 1) for plain in basics(posts, length)]
            for _ in range(6):
                pairs = [(plain, some(9) - 4) for plain in words if some(2)]
                pairs = tuple(pair for pair in pairs if pair[1])
                row = collected_row(pairs)
                self.assertEqual(row, taken_out(told_product(pairs)))
                self.assertEqual(collected(row, degree), pairs)
                self.assertEqual(collected(collected_row(collected(row, degree)), degree), pairs)
        self.assertEqual((collected_row(()), collected_row([("a", 99), ("a", -99)]), collected_row((("ab", -2),))),
                         ("", "", "baBAbaBA"))
        # Pairs in any order.
        self.assertEqual(collected_row([("b", 1), ("a", 1), ("ab", 1), ("a", -1)]), taken_out("baabABA"))

    def test_far_degrees(self):
        self.assertEqual((collected("", 60), collected("a" * 300, 60), collected("ab", 0), collected("gG", 9)),
                         ((), (("a", 300),), (), ()))
        some = draws(545)
        for posts, degree in ((2, 12), (3, 7), (8, 4)):
            row = drawn_row(some, posts, 300)
            told = collected(row, degree)
            self.assertEqual(told[:len(collected(row, 3))], collected(row, 3))
            self.assertEqual([pair for pair in told if len(pair[0]) == 1], list(leading(row)))
        one, other = drawn_row(some, 2, 40), drawn_row(some, 2, 40)
        deep = basic_rope("aaabaabab")
        self.assertEqual(collected(one + other, 8), collected(one + deep + other, 8))
        self.assertNotEqual(collected(one + other, 9), collected(one + deep + other, 9))
        self.assertEqual(leading(deep), (("aaabaabab", 1),))

    def test_bracket(self):
        told = [leading(row) for row in DEEP + ["a", "ab", "aab", "cA", "Bc", "aaabbA"]]
        for one, other in product(told, repeat=2):
            if one == () or other == ():
                self.assertEqual(bracket(one, other), ())
            else:
                row = between(taken_out(told_product(one)), taken_out(told_product(other)))
                is_deeper = row == "" or depth(row) > len(one[0][0]) + len(other[0][0])
                self.assertEqual(bracket(one, other), () if is_deeper else leading(row))
        self.assertEqual(bracket((("ab", 1),), (("a", 2), ("b", 1))), (("aab", -2), ("abb", 1)))
        self.assertEqual(bracket([("g", 1)], [("h", -3)]), (("gh", -3),))
        self.assertEqual((bracket((("a", 5),), (("a", 2),)), bracket((), ())), ((), ()))

    def test_term_house(self):
        for posts, plain, by in ((2, "ab", 2), (2, "", 5), (2, "aa", 3), (3, "cab", 2), (2, "b", 7), (1, "aaa", 4),
                                 (2, "abab", 3), (2, "aabba", 2), (1, "", 2)):
            house = term_house(posts, plain, by)
            self.assertIsInstance(house, House)
            self.assertEqual((house.posts, house.things), (posts, by ** (len(plain) + 1)))
            for row in all_rows(posts, 4)[::3] + ["aAbB"[:2 * posts] * 5, "a" * 40]:
                told = 0
                for at in range(len(plain) + 1):
                    told = told * by + term(row, plain[:at]) % by
                self.assertEqual(led_to(house, by ** len(plain), row), told)

    def test_swaps_of_a_term_house(self):
        for posts, plain, by in ((2, "ab", 3), (2, "aa", 2), (1, "aa", 3), (3, "c", 4)):
            house = term_house(posts, plain, by)
            things = list(product(range(by), repeat=len(plain) + 1))
            for post, swap in zip("abc", house.swaps):
                for numbers, goal in zip(things, swap):
                    led = [numbers[0]]
                    for j in range(1, len(numbers)):
                        led.append((numbers[j] + (numbers[j - 1] if plain[j - 1] == post else 0)) % by)
                    self.assertEqual(things[goal], tuple(led))
        self.assertEqual(term_house(8, "hh", 9).things, 729)
        self.assertEqual(len(term_house(8, "hh", 9).swaps), 8)


if __name__ == "__main__":
    unittest.main()
