"""Readings of maps by houses of swaps ([66])."""

import unittest

from ropesheld.errors import InvalidRow
from ropesheld.houses import House
from ropesheld.maps import Map
from ropesheld.readings import home_times, led_at, reading_rounds
from tests.support import GROW, NO_STRINGS, all_houses, all_rows, draws, drawn_house, drawn_row, taken_out, told_goal

MAPS = (GROW, Map(2, ["ab", "A"]), Map(2, ["", "ab"]), Map(2, ["b", "A"]), Map(2, ["aaB", "a"]))
PAIRS = [(one, house) for one in MAPS
         for house in all_houses(2, 3)[::3] + all_houses(2, 2)]
PAIRS += [(one, house) for one in (Map(1, ["aa"]), Map(1, ["A"]), Map(1, ["aaa"]), Map(1, [""]))
          for house in all_houses(1, 4)[::2]]
some = draws(661)
for _ in range(12):
    PAIRS.append((Map(3, [drawn_row(some, 3, some(6)) for _ in range(3)]), drawn_house(some, 3, 4)))


def goals(house, row):
    """Where a row leads each thing."""
    return tuple(told_goal(house, thing, row) for thing in range(house.things))


def told_swaps(one, house):
    """The swaps of all posts led 0, 1, .. times, up to the first that come again, and the number of these."""
    found, held = [], house
    while held.swaps not in found:
        found.append(held.swaps)
        held = House([goals(held, row) for row in one.rows])
    return found, found.index(held.swaps)


class TestReadings(unittest.TestCase):
    def test_least_pair(self):
        for one, house in PAIRS:
            found, begin = told_swaps(one, house)
            self.assertEqual(reading_rounds(one, house), (begin, len(found) - begin))

    def test_all_posts_do_what_their_rows_do(self):
        for one, house in PAIRS[::3]:
            begin, turn = reading_rounds(one, house)
            led = list("abc"[:one.posts])
            told = []
            for many in range(8):
                if sum(map(len, led)) > 3000:
                    break
                told.append([goals(house, row) for row in led])
                led = [one.led(row) for row in led]
            for many, swaps in enumerate(told):
                for later in range(many + 1, len(told)):
                    is_same = many >= begin and (later - many) % turn == 0
                    self.assertEqual(swaps == told[later], is_same)

    def test_led_step_by_step(self):
        for one, house in PAIRS[::2]:
            for row in all_rows(one.posts, 2)[::5] + ["aAaa", "abBA" if one.posts > 1 else "aA"]:
                led = taken_out(row)
                for many in range(7):
                    if len(led) < 2000:
                        for thing in range(house.things):
                            self.assertEqual(led_at(one, house, thing, row, many), told_goal(house, thing, led))
                        led = one.led(led)

    def test_very_many_times(self):
        for one, house in PAIRS[::3]:
            found, begin = told_swaps(one, house)
            for many in (10 ** 15, 10 ** 15 - 1, 10 ** 9 + 7, begin + 4, len(found)):
                less = many if many < begin else begin + (many - begin) % (len(found) - begin)
                for thing in range(house.things):
                    self.assertEqual(led_at(one, house, thing, "aA" + "ab"[:one.posts], many),
                                     told_goal(House(found[less]), thing, "ab"[:one.posts]))

    def test_home_times(self):
        for one, house in PAIRS:
            found, _ = told_swaps(one, house)
            for row in ("", "a", "aa", "aAA", "ab"[:one.posts]):
                still = tuple(range(house.things))
                told = tuple(many for many, swaps in enumerate(found) if goals(House(swaps), row) == still)
                self.assertEqual(home_times(one, house, row), told)

    def test_long_rounds(self):
        # The rounds come to many times at most, and each of them is told.
        drawn, longest = draws(662), 0
        for _ in range(60):
            one, house = Map(3, [drawn_row(drawn, 3, 8) for _ in range(3)]), drawn_house(drawn, 3, 4)
            begin, turn = reading_rounds(one, house)
            longest = max(longest, begin + turn)
            self.assertEqual(led_at(one, house, 1, "abc", begin), led_at(one, house, 1, "abc", begin + turn * 10 ** 12))
        self.assertGreater(longest, 10)

    def test_wrong_rows(self):
        house = House([[1, 0], [0, 1]])
        for value, at in [(value, 0) for value in NO_STRINGS] + [("abc", 2), ("aA?", 2), ("C", 0)]:
            for called in (lambda: led_at(GROW, house, 0, value, 3), lambda: home_times(GROW, house, value)):
                with self.assertRaises(InvalidRow) as caught:
                    called()
                self.assertEqual(caught.exception.at, at)


if __name__ == "__main__":
    unittest.main()
