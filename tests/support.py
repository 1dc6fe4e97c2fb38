"""What the tests share: any values, all small rows, walks and houses, and calls of every function."""

from itertools import combinations, permutations, product

from ropesheld import (
    basics, checker, closed, counting, depths, desk, errors, fallcounts, folds, forms, grown, handles, homes, houses,
    leads, live, maps, meeting, outside, pairings, parting, pulled, pushes, readings, rows, series, sheets, shortening,
    sides, squares, trains, tying, undoing, walks, webcounts, webs, wishes)
from ropesheld.desk import Desk
from ropesheld.houses import House
from ropesheld.live import Live
from ropesheld.maps import Map
from ropesheld.webs import Web

MODULES = (
    rows, walks, pushes, houses, parting, homes, forms, folds, pulled, wishes, closed, webs, tying, outside, meeting,
    sides, maps, undoing, shortening, leads, pairings, handles, squares, sheets, series, basics, depths, trains, grown,
    readings, counting, fallcounts, webcounts, live, desk, checker)
SIGNS = "aAbBcCdDeEfFgGhH"
HOUSE = House([[1, 2, 0], [0, 2, 1]])
ROPES = ("abAB", "aab")
WEB = Web(2, ROPES)
EVENS = Web(2, ["aa", "b", "abA"])
SLIDE = Map(2, ["ab", "b"])
TWICE = Map(2, ["aa", "b"])
GROW = Map(2, ["ab", "a"])
BOARD = Live(2)
DESK = Desk()

# Any values that are no strings, of all kinds and nested.
NO_STRINGS = (
    None, 0, 1, -1, 7, True, False, (), [], ("a",), ["a"], ["a", "b"], ("ab", ("ab",)), [[], [[]], [None]],
    ((((((("a",),),),),),),), HOUSE, [HOUSE], (HOUSE, 0), ("", ""), (0, 1), [True], WEB, (SLIDE,), SLIDE,
    BOARD, DESK, (BOARD, [DESK]), errors.InvalidRow(0), [errors.NoRope("cord")],
)


def all_rows(posts, length):
    """All rows of so many posts up to a length, in order."""
    signs = SIGNS[:2 * posts]
    return ["".join(letters) for many in range(length + 1) for letters in product(signs, repeat=many)]


def reduced_rows(posts, length):
    """All reduced rows of so many posts up to a length, in order."""
    return [row for row in all_rows(posts, length) if is_plain(row)]


def is_plain(row):
    """Whether no sign stands beside its other one."""
    return all(one != other.swapcase() for one, other in zip(row, row[1:]))


def taken_out(row):
    """The row that is left when signs beside their other ones are taken out again and again, post by post."""
    while not is_plain(row):
        for sign in SIGNS:
            row = row.replace(sign + sign.swapcase(), "")
    return row


def turned(row):
    """The row read backwards, each sign as its other one."""
    return "".join(reversed(row)).swapcase()


def order(row):
    """The order of rows: by length, then sign by sign."""
    return len(row), [SIGNS.index(sign) for sign in row]


def all_walks(length):
    """All walks up to a length."""
    return ["".join(steps) for many in range(length + 1) for steps in product("nesw", repeat=many)]


def all_houses(posts, things):
    """All houses of so many posts and things."""
    return [House(swaps) for swaps in product(permutations(range(things)), repeat=posts)]


def all_lots(posts):
    """All lots of a board, shorter ones first, of one length ascending."""
    return ["".join(lot) for many in range(posts + 1) for lot in combinations("abcdefgh"[:posts], many)]


def all_wishes(posts):
    """All wishes of a board."""
    found = [()]
    for lot in all_lots(posts):
        found += [wish + (lot,) for wish in found if not any(set(less) <= set(lot) for less in wish)]
    return found[1:]


def least(lots):
    """The least ones of some lots, in order."""
    kept = {lot for lot in lots if not any(set(less) < set(lot) for less in lots)}
    return tuple(sorted(kept, key=lambda lot: (len(lot), lot)))


def draws(seed):
    """A function that draws numbers below its argument, always the same ones for a seed."""
    state = [seed]

    def drawn(below):
        state[0] = (state[0] * 6364136223846793005 + 1442695040888963407) & (2 ** 64 - 1)
        return (state[0] >> 33) * below >> 31

    return drawn


def drawn_row(drawn, posts, length):
    """Some row of just so many signs."""
    return "".join(SIGNS[drawn(2 * posts)] for _ in range(length))


def drawn_walk(drawn, length):
    """Some walk of just so many steps."""
    return "".join("nesw"[drawn(4)] for _ in range(length))


def drawn_swap(drawn, things):
    """Some swap of so many things."""
    swap = list(range(things))
    for at in range(things - 1, 0, -1):
        other = drawn(at + 1)
        swap[at], swap[other] = swap[other], swap[at]
    return swap


def drawn_house(drawn, posts, things):
    """Some house."""
    return House([drawn_swap(drawn, things) for _ in range(posts)])


def told_goal(house, thing, row):
    """Where a row leads a thing, by the words of the document."""
    for sign in row:
        swap = house.swaps["abcdefgh".index(sign.lower())]
        thing = swap[thing] if sign.islower() else swap.index(thing)
    return thing


def told_web(posts, ropes):
    """The ties and the number of places of a web: rings at 0, with places made one, one pair after the other."""
    ties, many = set(), 1
    for rope in ropes:
        row = taken_out(rope)
        places = [0, *range(many, many + len(row) - 1), 0]
        many += max(len(row) - 1, 0)
        for sign, start, goal in zip(row, places, places[1:]):
            ties.add((start, sign, goal) if sign.islower() else (goal, sign.lower(), start))
    while True:
        pair = next((sorted(pair) for pair in clashes(ties)), None)
        if pair is None:
            break
        ties = {tuple(pair[0] if part == pair[1] else part for part in tie) for tie in ties}
    return renamed_web(posts, ties)


def clashes(ties):
    """The pairs of places that are one, as ties of one post begin or end at one place."""
    for start, post, goal in ties:
        for first, other, last in ties:
            if post == other and (start == first) != (goal == last):
                yield (goal, last) if start == first else (start, first)


def renamed_web(posts, ties):
    """The ties of a web with places numbered by their least reduced rows, and the number of places."""
    steps = {(start, post): goal for start, post, goal in ties}
    steps.update({(goal, post.upper()): start for start, post, goal in ties})
    places, ways = [0], [("", 0)]
    while ways:
        # All reduced rows of one length that go along ties, in order; only those to new places go on.
        longer = [(row + sign, steps[place, sign]) for row, place in ways for sign in SIGNS[:2 * posts]
                  if (place, sign) in steps]
        ways = []
        for row, place in sorted(longer, key=lambda pair: order(pair[0])):
            if place not in places:
                places.append(place)
                ways.append((row, place))
    numbers = {place: number for number, place in enumerate(places)}
    return tuple(sorted((numbers[x], post, numbers[y]) for x, post, y in ties)), len(places)


def no_plains(posts):
    """Pairs of a value that is no plain row of so many posts, and the number that InvalidRow tells for it."""
    return no_rows(posts) + [("A", 0), ("aA", 1), ("a" * 20 + "A", 20), ("aAa", 1), ("AA", 0), ("aAaAz", 4), ("A?", 1)]


def no_rows(posts):
    """Pairs of a value that is no row of so many posts, and the number of the first thing in it that is no sign."""
    found = [(value, 0) for value in NO_STRINGS]
    found += [("1", 0), (" ", 0), ("i", 0), ("-a", 0), ("aA1", 2), ("a-1", 1)]
    found += [("aA\n", 2), ("a a", 1), ("aA" * 50 + "?", 100), ("aaiaa", 2), ("aI", 1), ("a\u00e4", 1), ("\u0430", 0)]
    if posts < 8:
        later = SIGNS[2 * posts:]
        found += [("aA" + later[0], 2), (later[1] + "a", 0), ("a" + later[-1], 1)]
    return found


NO_WALKS = [(value, 0) for value in NO_STRINGS] + [
    ("N", 0), ("a", 0), ("nesw ", 4), ("nes\n", 3), ("n" * 40 + "x", 40), ("nEsw", 1), ("n\u00e9", 1)]

# No leads of three posts.
NO_LEADS = [(value, 0) for value in NO_STRINGS if value not in ((), [], (0, 1))] + [
    ("", 0), ("1", 0), ("12", 0), ({}, 0), ({1}, 0), ([0], 0), ((3,), 0), ([1, 3], 1), ([1, -2, -3, 9], 2), ([2, 0], 1),
    ([1, True], 1), ([False, 1], 0), ([1, "1"], 1), ((-1, -2, (1,)), 2), ((1, None), 1), ([1] * 60 + [10 ** 20], 60),
    ((0, 1), 0), ([2, -1, HOUSE], 2), (["a"], 0)]

# No wishes of a board with two posts.
NO_WISHES = [value for value in NO_STRINGS if value != ("a",)] + [
    "", "a", ["a"], ("b", "a"), ("a", "a"), ("a", "ab"), ("", "a"), ("ba",), ("aa",), ("A",), ("c",), ("ac",),
    ("a", "c"),
    ("ab", "a"), ("a", None), ("a", 1), (("a",),), ("a", ["b"]), ("a ",), ("i",)]

# Each function with arguments by name, in order, and the names of those that may be wrong rows, walks or wishes.
CALLS = {
    "reduced": ({"row": "abBa"}, {"row": 8}),
    "is_reduced": ({"row": "abBa"}, {"row": 8}),
    "turned": ({"row": "aab"}, {"row": 8}),
    "joined": ({"rows": ("ab", "BA", "b")}, {}),
    "times": ({"row": "abA", "many": 3}, {"row": 8}),
    "core": ({"row": "abbaBA"}, {"row": 8}),
    "windings": ({"row": "abAB", "posts": 2}, {"row": 2}),
    "without": ({"row": "abcAB", "lot": "ac"}, {"row": 8}),
    "alike": ({"one": "aAb", "other": "bcC"}, {"one": 8, "other": 8}),
    "chain": ({"one": "aAb", "other": "b"}, {"one": 8, "other": 8}),
    "chain_holds": ({"one": "aAb", "other": "b", "value": ("aAb", "b")}, {"one": 8, "other": 8}),
    "points": ({"walk": "se"}, {"walk": "walk"}),
    "end": ({"walk": "sse"}, {"walk": "walk"}),
    "back": ({"walk": "sse"}, {"walk": "walk"}),
    "crossing_row": ({"walk": "sseenwnw", "posts": 2}, {"walk": "walk"}),
    "walk_of": ({"row": "bA"}, {"row": 8}),
    "plain_walk": ({"walk": "sseenwnw", "posts": 2}, {"walk": "walk"}),
    "land": ({"walk": "senw"}, {"walk": "walk"}),
    "meetings": ({"walk": "senw"}, {"walk": "walk"}),
    "alike_walks": ({"one": "seen", "other": "seenns", "posts": 2}, {"one": "walk", "other": "walk"}),
    "push_chain": ({"one": "ne", "other": "en", "posts": 2}, {"one": "walk", "other": "walk"}),
    "push_chain_holds": (
        {"one": "ne", "other": "en", "posts": 1, "value": ("ne", "en")}, {"one": "walk", "other": "walk"}),
    "led_to": ({"house": HOUSE, "thing": 0, "row": "ab"}, {"row": 2}),
    "swap_of": ({"house": HOUSE, "row": "ab"}, {"row": 2}),
    "is_still": ({"house": HOUSE, "row": "ab"}, {"row": 2}),
    "swap_rounds": ({"house": HOUSE, "row": "ab"}, {"row": 2}),
    "swap_order": ({"house": HOUSE, "row": "a"}, {"row": 2}),
    "orbits": ({"house": HOUSE}, {}),
    "beside": ({"one": HOUSE, "other": House([[0], [0]])}, {}),
    "paired": ({"one": HOUSE, "other": House([[1, 0], [0, 1]])}, {}),
    "stilled": ({"house": HOUSE, "pulled": "a"}, {}),
    "parting": ({"posts": 2, "one": "ab", "other": "ba"}, {"one": 2, "other": 2}),
    "parting_holds": ({"one": "a", "other": "b", "value": (HOUSE, 0)}, {"one": 8, "other": 8}),
    "house_ways": ({"house": HOUSE, "thing": 1}, {}),
    "way": ({"house": HOUSE, "thing": 0, "goal": 2}, {}),
    "home_rows": ({"house": HOUSE, "thing": 1}, {}),
    "home_told": ({"house": HOUSE, "thing": 0, "row": "aabA"}, {"row": 2}),
    "home_joined": ({"house": HOUSE, "thing": 0, "told": ((1, 1), (3, 1))}, {}),
    "house_form": ({"house": HOUSE, "thing": 2}, {}),
    "same_home": ({"one": HOUSE, "thing": 0, "other": HOUSE, "spot": 1}, {}),
    "parting_row": ({"one": HOUSE, "thing": 0, "other": HOUSE, "spot": 1}, {}),
    "forms": ({"posts": 2, "things": 3}, {}),
    "many_forms": ({"posts": 2, "things": 3}, {}),
    "folds": ({"house": HOUSE}, {}),
    "fold_holds": ({"house": HOUSE, "value": (0, 1, 2)}, {}),
    "folded": ({"house": House([[1, 2, 3, 0]]), "fold": (0, 1, 0, 1)}, {}),
    "falls": ({"row": "abAB", "lot": "a"}, {"row": 8}),
    "falling": ({"row": "abAB", "posts": 3}, {"row": 3}),
    "holding": ({"row": "abAB", "posts": 3}, {"row": 3}),
    "needed": ({"row": "aab", "posts": 2}, {"row": 2}),
    "spared": ({"row": "abAB", "posts": 3}, {"row": 3}),
    "falls_at": ({"row": "aab", "order": "ba", "posts": 2}, {"row": 2}),
    "sure_for": ({"row": "abAB", "posts": 3}, {"row": 3}),
    "wish_of": ({"lots": ("ab", "c", "abc"), "posts": 3}, {}),
    "asks": ({"wish": ("c", "ab"), "lot": "bc"}, {}),
    "either": ({"one": ("a",), "other": ("b",), "posts": 2}, {"one": "wish", "other": "wish"}),
    "both": ({"one": ("a",), "other": ("a", "b"), "posts": 2}, {"one": "wish", "other": "wish"}),
    "any_of": ({"posts": 3, "many": 2}, {}),
    "bars": ({"wish": ("a", "b"), "posts": 2}, {"wish": "wish"}),
    "rope_for": ({"wish": ("a", "b"), "posts": 2}, {"wish": "wish"}),
    "keeps_wish": ({"row": "abAB", "wish": ("a", "b"), "posts": 2}, {"row": 2, "wish": "wish"}),
    "together": ({"one": "abAB", "other": "ba", "posts": 2}, {"one": 2, "other": 2}),
    "turns": ({"row": "abAB"}, {"row": 8}),
    "least_turn": ({"row": "abAB"}, {"row": 8}),
    "same_closed": ({"one": "baa", "other": "aab"}, {"one": 8, "other": 8}),
    "some_arm": ({"one": "baa", "other": "aab"}, {"one": 8, "other": 8}),
    "arm_holds": ({"one": "baa", "other": "aab", "value": "b"}, {"one": 8, "other": 8}),
    "least_arm": ({"one": "baa", "other": "aab"}, {"one": 8, "other": 8}),
    "root": ({"row": "aabaab"}, {"row": 8}),
    "nth_part": ({"row": "abab", "many": 2}, {"row": 8}),
    "commute": ({"one": "ab", "other": "abab"}, {"one": 8, "other": 8}),
    "shared_root": ({"one": "aab", "other": "BAA"}, {"one": 8, "other": 8}),
    "shared_power": ({"one": "aab", "other": "BAABAA"}, {"one": 8, "other": 8}),
    "arm_for_all": ({"ones": ("baa", "b"), "others": ("aab", "b")}, {}),
    "all_hold": ({"ones": ("baa", "b"), "others": ("aab", "b"), "value": "b"}, {}),
    "agree": ({"one": "aab", "other": "ab"}, {"one": 8, "other": 8}),
    "tied": ({"posts": 2, "ropes": ROPES, "row": "aabbaBA"}, {"row": 2}),
    "tied_holds": (
        {"posts": 2, "ropes": ROPES, "row": "aabbaBA", "value": ((1, False), (0, True))}, {"row": 2}),
    "idle": ({"posts": 2, "ropes": ("ab", "abab")}, {}),
    "is_free": ({"posts": 2, "ropes": ROPES}, {}),
    "rank": ({"web": WEB}, {}),
    "base": ({"web": WEB}, {}),
    "side_house": ({"posts": 2, "ropes": ROPES, "row": "ab"}, {"row": 2}),
    "side_holds": (
        {"posts": 2, "ropes": ("aa", "b"), "row": "a", "value": House([[1, 0], [0, 1]])}, {"row": 2}),
    "meet": ({"one": EVENS, "other": WEB}, {}),
    "joined_web": ({"one": EVENS, "other": WEB}, {}),
    "is_within": ({"one": WEB, "other": EVENS}, {}),
    "moved": ({"web": WEB, "row": "aB"}, {"row": 2}),
    "mover": ({"one": WEB, "other": meeting.moved(WEB, "aB")}, {}),
    "side_of": ({"web": WEB, "row": "aa"}, {"row": 2}),
    "same_side": ({"web": WEB, "one": "aa", "other": "B"}, {"one": 2, "other": 2}),
    "sides": ({"web": EVENS}, {}),
    "all_sides": ({"web": EVENS}, {}),
    "plain_map": ({"posts": 2}, {}),
    "turning_map": ({"posts": 2, "row": "ab"}, {"row": 2}),
    "led_after": ({"one": SLIDE, "other": Map(2, ["b", "A"])}, {}),
    "table": ({"one": SLIDE}, {}),
    "undone": ({"one": SLIDE}, {}),
    "is_undone": ({"one": SLIDE, "other": Map(2, ["aB", "b"])}, {}),
    "missed": ({"one": TWICE}, {}),
    "missed_holds": ({"one": TWICE, "value": ("a", House([[1, 0], [0, 1]]))}, {}),
    "turned_into": ({"one": SLIDE, "other": Map(2, ["ba", "b"])}, {}),
    "turning_row": ({"one": Map(2, ["abaBA", "abA"])}, {}),
    "changes": ({"posts": 2}, {}),
    "shortening": ({"row": "aab", "posts": 2}, {"row": 2}),
    "is_shortest": ({"row": "aabb", "posts": 2}, {"row": 2}),
    "least_by_maps": ({"row": "BAba", "posts": 2}, {"row": 2}),
    "same_by_maps": ({"one": "aab", "other": "B", "posts": 2}, {"one": 2, "other": 2}),
    "map_between": ({"one": "ab", "other": "B", "posts": 2}, {"one": 2, "other": 2}),
    "between_holds": (
        {"one": "aB", "other": "a", "posts": 2, "value": Map(2, ["ab", "b"])}, {"one": 2, "other": 2}),
    "is_free_part": ({"row": "aab", "posts": 2}, {"row": 2}),
    "led_row": ({"posts": 3, "leads": (1, -2), "row": "ab"}, {"leads": "leads", "row": 3}),
    "images": ({"posts": 3, "leads": (1, -2)}, {"leads": "leads"}),
    "carried": ({"posts": 3, "leads": (1, -2)}, {"leads": "leads"}),
    "spots": ({"posts": 3, "leads": (1, -2)}, {"leads": "leads"}),
    "led_back": ({"leads": (1, -2)}, {}),
    "same_leads": ({"posts": 3, "one": (1, 2, 1), "other": (2, 1, 2)}, {"one": "leads", "other": "leads"}),
    "first_parted": ({"posts": 3, "one": (2,), "other": (-2,)}, {"one": "leads", "other": "leads"}),
    "are_images": ({"value": ("abA", "a")}, {}),
    "leads_for": ({"value": ("abA", "a")}, {}),
    "leads_hold": ({"value": ("abA", "a"), "leads": (1,)}, {}),
    "left_leads": ({"posts": 3, "leads": (1, 2, 1, 2), "post": "b"}, {"leads": "leads"}),
    "crossings": ({"posts": 3, "leads": (1, 2, 1, 2)}, {"leads": "leads"}),
    "whole_round": ({"posts": 3}, {}),
    "whole_rounds": ({"posts": 3, "leads": (1, 2) * 3}, {"leads": "leads"}),
    "pairing": ({"row": "abAB"}, {"row": 8}),
    "handles_of": ({"row": "abAB", "pairs": ((0, 2), (1, 3))}, {"row": 8}),
    "pairing_holds": ({"row": "abAB", "value": ((0, 2), (1, 3))}, {"row": 8}),
    "handles": ({"row": "abABcdCD"}, {"row": 8}),
    "handle_pairs": ({"row": "abABcdCD"}, {"row": 8}),
    "handle_pairs_hold": ({"row": "abAB", "value": (("ab", "A"),)}, {"row": 8}),
    "handle_cut": ({"row": "abAB"}, {"row": 8}),
    "handle_cut_holds": ({"row": "abAB", "value": ("", "a", "b", "")}, {"row": 8}),
    "squares": ({"row": "abAB"}, {"row": 8}),
    "square_rows": ({"row": "abAB"}, {"row": 8}),
    "square_rows_hold": ({"row": "abAB", "value": ("a", "Ab", "B")}, {"row": 8}),
    "fall_together": ({"rows": ("ab", "A", "B")}, {}),
    "fall_together_holds": ({"rows": ("ab", "A", "B"), "value": ("", "B", "")}, {}),
    "term": ({"row": "abAB", "plain": "ab"}, {"row": 8, "plain": "plain"}),
    "terms": ({"row": "abAB", "degree": 2}, {"row": 8}),
    "depth": ({"row": "abAB"}, {"row": 8}),
    "commutator": ({"one": "ab", "other": "b"}, {"one": 8, "other": 8}),
    "parting_depth": ({"one": "ab", "other": "ba"}, {"one": 8, "other": 8}),
    "parting_plain": ({"one": "ab", "other": "ba"}, {"one": 8, "other": 8}),
    "plain_parts": ({"one": "ab", "other": "ba", "value": "ab"}, {"one": 8, "other": 8}),
    "is_basic": ({"plain": "aab"}, {"plain": "plain"}),
    "basics": ({"posts": 2, "degree": 3}, {}),
    "many_basics": ({"posts": 2, "degree": 3}, {}),
    "basic_halves": ({"plain": "aab"}, {"plain": "plain"}),
    "basic_rope": ({"plain": "aab"}, {"plain": "plain"}),
    "leading": ({"row": "abAB"}, {"row": 8}),
    "collected": ({"row": "ba", "degree": 2}, {"row": 8}),
    "collected_row": ({"pairs": (("a", 1), ("b", 1), ("ab", -1))}, {}),
    "bracket": ({"one": (("ab", 1),), "other": (("a", 2), ("b", 1))}, {}),
    "term_house": ({"posts": 2, "plain": "ab", "by": 3}, {"plain": "plain of 2"}),
    "turns_in": ({"row": "abA"}, {"row": 8}),
    "turn_led": ({"one": GROW, "turn": ("A", "b")}, {}),
    "is_smooth": ({"one": GROW, "row": "ab"}, {"row": 2}),
    "train_lot": ({"one": GROW}, {}),
    "is_train": ({"one": GROW}, {}),
    "train_holds": ({"one": GROW, "value": (("A", "a"), ("A", "b"), ("B", "a"))}, {}),
    "trouble": ({"one": Map(2, ["ab", "A"])}, {}),
    "tallies": ({"one": GROW, "row": "ab", "many": 4}, {"row": 2}),
    "long": ({"one": GROW, "row": "ab", "many": 4}, {"row": 2}),
    "long_rest": ({"one": GROW, "row": "ab", "many": 10 ** 15, "by": 10}, {"row": 2}),
    "sign_led": ({"one": GROW, "row": "ab", "many": 4, "n": 5}, {"row": 2}),
    "growth": ({"one": GROW, "row": "ab"}, {"row": 2}),
    "cycle": ({"one": Map(2, ["b", "A"]), "row": "a"}, {"row": 2}),
    "windings_led": ({"one": GROW, "row": "aB", "many": 3}, {"row": 2}),
    "windings_rest": ({"one": GROW, "row": "aB", "many": 10 ** 15, "by": 7}, {"row": 2}),
    "reading_rounds": ({"one": GROW, "house": HOUSE}, {}),
    "led_at": ({"one": GROW, "house": HOUSE, "thing": 1, "row": "aB", "many": 10 ** 15}, {"row": 2}),
    "home_times": ({"one": GROW, "house": HOUSE, "row": "a"}, {"row": 2}),
    "many_rows": ({"posts": 2, "length": 3}, {}),
    "row_at": ({"posts": 2, "length": 3, "number": 17}, {}),
    "number_of": ({"posts": 2, "row": "abA"}, {"row": 2}),
    "many_round": ({"posts": 3, "length": 2}, {}),
    "many_classes": ({"posts": 3, "length": 2}, {}),
    "many_roots": ({"posts": 3, "length": 2}, {}),
    "many_falling": ({"posts": 2, "lot": "a", "length": 3}, {}),
    "falling_at": ({"posts": 2, "lot": "a", "length": 3, "number": 2}, {}),
    "falling_number": ({"posts": 2, "lot": "a", "row": "bAB"}, {"row": 2}),
    "many_within": ({"web": EVENS, "length": 3}, {}),
    "within_at": ({"web": EVENS, "length": 3, "number": 2}, {}),
    "many_home": ({"house": HOUSE, "thing": 1, "length": 3}, {}),
    "home_at": ({"house": HOUSE, "thing": 1, "length": 3, "number": 2}, {}),
    "holds": ({"kind": "closed", "question": ("baa", "aab"), "value": "b"}, {}),
    "wrong_sheets": ({"sheets": (("closed", ("baa", "aab"), "b"), ("closed", ("baa", "aab"), "a"))}, {}),
    "sheet_back": ({"sheet": ("closed", ("baa", "aab"), "b")}, {}),
    "sheet_on": ({"sheet": ("closed", ("baa", "aab"), "b"), "more": ("closed", ("aab", "aba"), "a")}, {}),
    "knot_in": ({"sheet": ("tied", (("a",), "A"), ((0, True),)),
                 "sheets": (("tied", (("b", "ba"), "a"), ((0, True), (1, False))),)}, {}),
}


def function_of(name):
    """The function of the package with a name."""
    for module in MODULES:
        if name in vars(module) and vars(module)[name].__module__ == module.__name__:
            return vars(module)[name]
    raise LookupError(name)


def wrongs_of(kind):
    """Pairs of a wrong value of a kind and the error that it raises, with what this keeps."""
    if kind == "walk":
        return [(value, errors.InvalidWalk, at) for value, at in NO_WALKS]
    if kind == "leads":
        return [(value, errors.InvalidLead, at) for value, at in NO_LEADS]
    if kind == "wish":
        return [(value, errors.InvalidWish, 0) for value in NO_WISHES]
    if kind in ("plain", "plain of 2"):
        return [(value, errors.InvalidRow, at) for value, at in no_plains(8 if kind == "plain" else 2)]
    return [(value, errors.InvalidRow, at) for value, at in no_rows(kind)]
