"""Pairings of the signs of a core: what a rope bounds is cut into strips, each of which joins two signs."""

from ropesheld.rows import core, windings
from ropesheld.signs import MOST_POSTS, is_number


def one_number(corners, at, other):
    """The numbers of the corners of a ring, if those with the numbers of two corners are put together."""
    kept, gone = corners[at % len(corners)], corners[other % len(corners)]
    return [kept if number == gone else number for number in corners]


def together(corners, place, other, is_same):
    """The numbers of the corners if a pair of places puts some together; a sign and the same sign go the same way."""
    if is_same:
        return one_number(one_number(corners, place, other), place + 1, other + 1)
    return one_number(one_number(corners, place, other + 1), place + 1, other)


class Search:
    """The search for a pairing of a word by which as many unlike corners are left as by any.

    A loose one may pair a sign with the same sign, and has to do so at least once.
    """

    def __init__(self, word, loose):
        self.word = word
        self.loose = loose
        self.pairs = None
        self.corners = 0

    def go_on(self, left, corners, pairs, is_loose):
        """Pair the places that are left in all ways in which more corners can be left than by the best one so far."""
        if len(set(corners)) <= self.corners:
            return
        if not left and is_loose == self.loose:
            self.pairs, self.corners = tuple(pairs), len(set(corners))
        for other in left[1:]:
            place, is_same = left[0], self.word[left[0]] == self.word[other]
            if is_same and self.loose or self.word[place] == self.word[other].swapcase():
                rest = [spot for spot in left[1:] if spot != other]
                further = together(corners, place, other, is_same)
                self.go_on(rest, further, pairs + [(place, other)], is_loose or is_same)


def best_pairing(word, loose):
    """Some pairing of a word that is not empty, by which as many corners are left as by any, and how many, or None."""
    search = Search(word, loose)
    search.go_on(list(range(len(word))), list(range(len(word))), [], False)
    return None if search.pairs is None else (search.pairs, search.corners)


def pairing(row):
    """Some pairing of a row that has as few handles as any, or None."""
    _, word = core(row)
    if word == "":
        return ()
    # This is told at once, where trying all might take long.
    if any(windings(word, MOST_POSTS)):
        return None
    pairs, _ = best_pairing(word, False)
    return pairs


def handles_of(row, pairs):
    """How many handles a pairing of a row has."""
    _, word = core(row)
    corners = list(range(len(word)))
    for place, other in pairs:
        corners = together(corners, place, other, False)
    return (len(word) // 2 - len(set(corners)) + 1) // 2


def pairing_holds(row, value):
    """Whether any value is a pairing of a row."""
    _, word = core(row)
    if not isinstance(value, tuple) or not all([is_pair(pair, word) for pair in value]):
        return False
    places = sorted([place for pair in value for place in pair])
    return places == list(range(len(word))) and sorted(value) == list(value)


def is_pair(value, word):
    """Whether any value is a pair of ascending places of a sign and its other one in a word."""
    if not isinstance(value, tuple) or len(value) != 2 or not all([is_number(place) for place in value]):
        return False
    place, other = value
    return place < other < len(word) and word[place] == word[other].swapcase()
