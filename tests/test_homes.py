"""Rows that lead home, forms and folds ([19] to [22])."""

import unittest
from itertools import product
from math import comb, factorial

from ropesheld.errors import InvalidRow
from ropesheld.folds import fold_holds, folded, folds
from ropesheld.forms import forms, house_form, many_forms, parting_row, same_home
from ropesheld.homes import home_joined, home_rows, home_told, house_ways, way
from ropesheld.houses import House, led_to, swap_of
from tests.support import (
    HOUSE, NO_STRINGS, all_houses, all_rows, draws, drawn_house, drawn_row, order, taken_out, turned)

HOUSES = all_houses(1, 3) + all_houses(2, 3)[::2] + all_houses(3, 2) + [House([[0]]), House([[0]] * 8)]


def told_ways(house, thing):
    """The least rows to all things, by trying all rows in order."""
    found = {}
    for row in all_rows(house.posts, house.things - 1):
        found.setdefault(led_to(house, thing, row), row)
    return tuple(sorted(found.items(), key=lambda pair: order(pair[1])))


class TestHomes(unittest.TestCase):
    def test_least_rows(self):
        for house in HOUSES + all_houses(1, 4):
            for thing in range(house.things):
                ways = told_ways(house, thing)
                self.assertEqual(house_ways(house, thing), ways)
                for goal in range(house.things):
                    self.assertEqual(way(house, thing, goal), dict(ways).get(goal))

    def test_ways_of_many_things(self):
        house = House([[(thing + 1) % 100 for thing in range(100)]] * 2)
        ways = house_ways(house, 99)
        self.assertEqual(ways[:4], ((99, ""), (0, "a"), (98, "A"), (1, "aa")))
        self.assertEqual((len(ways), ways[-1]), (100, (49, "a" * 50)))
        for goal, row in house_ways(drawn_house(draws(31), 3, 100), 7):
            self.assertEqual(order(row), min(order(row), order(taken_out(row))))

    def test_home_rows(self):
        for house in HOUSES:
            for thing in range(house.things):
                ways = dict(told_ways(house, thing))
                told = [ways[x] + p + turned(ways[led_to(house, x, p)]) for x in ways for p in "abcdefgh"[:house.posts]]
                rows = home_rows(house, thing)
                self.assertEqual(rows, tuple(taken_out(row) for row in told if taken_out(row)))
                self.assertEqual(len(rows), 1 + len(ways) * (house.posts - 1))
                self.assertTrue(all(led_to(house, thing, row) == thing for row in rows))
        self.assertEqual(home_rows(House([[0]]), 0), ("a",))

    def test_home_told(self):
        for house in HOUSES[::2]:
            for thing in range(house.things):
                for row in all_rows(house.posts, 4 if house.posts < 3 else 3)[:900]:
                    told = home_told(house, thing, row)
                    if led_to(house, thing, row) != thing:
                        self.assertIsNone(told)
                    else:
                        self.assert_told(house, thing, row, told)

    def assert_told(self, house, thing, row, told):
        self.assertIsInstance(told, tuple)
        self.assertTrue(all(isinstance(pair, tuple) and pair[1] in (1, -1) for pair in told))
        rows = home_rows(house, thing)
        self.assertEqual(taken_out("".join(rows[x] if p == 1 else turned(rows[x]) for x, p in told)), taken_out(row))
        self.assertFalse(any(one == (x, -p) for one, (x, p) in zip(told, told[1:])))
        self.assertEqual(home_joined(house, thing, told), taken_out(row))

    def test_each_told_tuple_is_told_back(self):
        for house in (HOUSE, House([[1, 0], [0, 1], [1, 0]])):
            pairs = [(x, p) for x in range(len(home_rows(house, 0))) for p in (1, -1)]
            for told in product(pairs, repeat=3):
                if not any(one == (x, -p) for one, (x, p) in zip(told, told[1:])):
                    self.assertEqual(home_told(house, 0, home_joined(house, 0, told)), told)
        self.assertEqual(home_joined(HOUSE, 0, ((0, 1), (0, -1))), "")
        self.assertEqual((home_joined(HOUSE, 1, []), home_told(HOUSE, 1, ""), home_told(HOUSE, 1, "aA")), ("", (), ()))

    def test_long_rows(self):
        drawn = draws(32)
        house = drawn_house(drawn, 2, 60)
        row = drawn_row(drawn, 2, 300)
        row += way(house, led_to(house, 5, row), 5)
        self.assert_told(house, 5, row, home_told(house, 5, row))

    def test_wrong_rows_come_first(self):
        for row, at in [(None, 0), ("c", 0), ("abC", 2), ("aab?", 3)]:
            with self.assertRaises(InvalidRow) as caught:
                home_told(HOUSE, 0, row)
            self.assertEqual(caught.exception.at, at)


class TestForms(unittest.TestCase):
    def test_form(self):
        for house in HOUSES:
            for thing in range(house.things):
                places = [place for place, row in told_ways(house, thing)]
                form = house_form(house, thing)
                self.assertEqual((form.things, form.posts), (len(places), house.posts))
                for post, swap in enumerate(form.swaps):
                    self.assertEqual([places[goal] for goal in swap], [house.swaps[post][place] for place in places])
                self.assertEqual(house_form(form, 0), form)

    def test_same_home(self):
        houses = all_houses(2, 2) + all_houses(2, 3)[::7]
        rows = all_rows(2, 5)
        home = {}
        for number, house in enumerate(houses):
            for thing in range(house.things):
                home[number, thing] = [led_to(house, thing, row) == thing for row in rows]
        for (one, thing), ones in home.items():
            for (other, spot), others in home.items():
                same = same_home(houses[one], thing, houses[other], spot)
                row = parting_row(houses[one], thing, houses[other], spot)
                self.assertEqual(same, ones == others)
                parted = [row for row, x, y in zip(rows, ones, others) if x != y]
                self.assertEqual(row, None if same else parted[0])

    def test_parting_row_far_out(self):
        one, other = [House([[(thing + 1) % many for thing in range(many)]]) for many in (99, 100)]
        self.assertEqual(parting_row(one, 0, other, 50), "a" * 99)
        self.assertIsNone(parting_row(other, 3, other, 50))
        self.assertEqual(parting_row(House([[0], [0]]), 0, HOUSE, 0), "a")

    def test_forms(self):
        for posts, things in [(1, 1), (8, 1), (1, 2), (1, 5), (2, 1), (2, 2), (2, 3), (2, 4), (3, 2), (3, 3), (4, 2)]:
            own = [house for house in all_houses(posts, things) if house_form(house, 0) == house]
            self.assertEqual(forms(posts, things), tuple(sorted(own, key=lambda house: house.swaps)), (posts, things))
            self.assertEqual(many_forms(posts, things), len(own))
        self.assertEqual(len(forms(8, 2)), 255)
        self.assertEqual(len(forms(2, 5)), 461)
        self.assertEqual(forms(1, 6), (House([[1, 3, 0, 5, 2, 4]]),))

    def test_many_forms(self):
        self.assertEqual([many_forms(2, things) for things in range(1, 8)], [1, 3, 13, 71, 461, 3447, 29093])
        self.assertEqual([many_forms(1, things) for things in range(1, 41)], [1] * 40)
        self.assertEqual([many_forms(3, things) for things in range(1, 4)], [1, 7, 97])
        # Of all swaps of n things, those of the things to which 0 is led are a form with free numbers but for 0.
        for posts in (1, 2, 3, 8):
            free = [factorial(things) ** posts for things in range(41)]
            led = [0] + [many_forms(posts, things) * factorial(things - 1) for things in range(1, 41)]
            for things in range(1, 41):
                told = sum(comb(things - 1, many - 1) * led[many] * free[things - many]
                    for many in range(1, things + 1))
                self.assertEqual(told, free[things])

    def test_form_of_many_things(self):
        house = drawn_house(draws(33), 2, 100)
        form = house_form(house, 40)
        self.assertTrue(same_home(house, 40, form, 0))
        self.assertIsNone(parting_row(house, 40, form, 0))
        self.assertEqual(house_form(form, 0), form)


def told_folds(house):
    """All folds of a house, by trying all numbers of groups."""
    found = []
    for groups in product(range(house.things), repeat=house.things):
        as_they_come = all(group <= max(groups[:at], default=-1) + 1 for at, group in enumerate(groups))
        pairs = [(x, y) for x in range(house.things) for y in range(house.things) if groups[x] == groups[y]]
        if as_they_come and all(groups[swap[x]] == groups[swap[y]] for swap in house.swaps for x, y in pairs):
            found.append(groups)
    return tuple(found)


class TestFolds(unittest.TestCase):
    def test_all_folds(self):
        drawn = draws(34)
        houses = HOUSES[::3] + [drawn_house(drawn, posts, 4) for posts in (1, 1, 2, 2, 3)]
        for house in houses + [drawn_house(drawn, 1, 5)]:
            found = folds(house)
            self.assertEqual(found, told_folds(house))
            for groups in product(range(house.things), repeat=house.things):
                self.assertEqual(fold_holds(house, groups), groups in found)

    def test_six_things(self):
        self.assertEqual(len(folds(House([list(range(6))] * 8))), 203)
        self.assertEqual(folds(House([[0]])), ((0,),))
        ring = House([[1, 2, 3, 4, 5, 0]])
        self.assertEqual(folds(ring), ((0, 0, 0, 0, 0, 0), (0, 1, 0, 1, 0, 1), (0, 1, 2, 0, 1, 2), (0, 1, 2, 3, 4, 5)))

    def test_folded(self):
        for house in HOUSES + [House([[1, 2, 3, 0], [3, 2, 1, 0]]), House([[2, 3, 0, 1, 5, 4]])]:
            for fold in folds(house):
                groups = folded(house, fold)
                self.assertEqual((groups.things, groups.posts), (max(fold) + 1, house.posts))
                for row in ("", "a", "A", "aA"):
                    goals = swap_of(house, row)
                    self.assertTrue(all(led_to(groups, fold[x], row) == fold[goals[x]] for x in range(house.things)))

    def test_rows_that_lead_home_lead_groups_home(self):
        house = House([[1, 2, 3, 0], [3, 2, 1, 0]])
        for fold in folds(house):
            for row in all_rows(2, 4):
                if led_to(house, 1, row) == 1:
                    self.assertEqual(led_to(folded(house, fold), fold[1], row), fold[1])

    def test_other_values_do_not_hold(self):
        ring = House([[1, 2, 3, 0]])
        for value in list(NO_STRINGS) + [[0, 1, 0, 1], (0, 1, 0), (0, 1, 0, 1, 0), (1, 0, 1, 0), (0, 2, 0, 2),
                (0, 0, 1, 1), (0, 1, 1, 0),
                                         (False, 1, 0, 1), (0, True, 0, True), (0, -1, 0, -1), ("0", "1", "0", "1"),
                                         "0101",
                                         (0, 1, 0, None), (0, 1, (0,), 1), (0, 1, 2, 0), ((0, 1, 0, 1),), (HOUSE,) * 4]:
            self.assertFalse(fold_holds(ring, value), value)
        self.assertTrue(fold_holds(ring, (0, 1, 0, 1)))
        self.assertFalse(fold_holds(House([[0]]), (False,)))
        self.assertFalse(fold_holds(House([[0]]), ()))
        self.assertTrue(fold_holds(House([[0]]), (0,)))


if __name__ == "__main__":
    unittest.main()
