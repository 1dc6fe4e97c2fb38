"""The desk: commands in words for a live board, and what it says to them."""

from ropesheld.errors import InvalidCommand
from ropesheld.houses import is_short_number
from ropesheld.live import Live
from ropesheld.signs import word_of

# How many words stand behind the first one; "tied" and "tying" take any number of further ones.
WORDS = {
    "board": 1, "lay": 2, "splice": 3, "turn": 2, "cut": 3, "drop": 1, "pull": 1, "put": 1, "now": 1, "laid": 1,
    "bundles": 0, "tied": 1, "tying": 1, "merge": 2, "fall": 1, "text": 0, "undo": 0,
}


class Desk:
    """Does commands on a live board, of which there is none at first."""

    def __init__(self):
        self.live = None

    def say(self, command):
        """Do a command and tell its result."""
        words = told_words(command)
        word, rest = words[0], words[1:]
        if word == "board":
            self.live = Live(int(rest[0]))
            return rest[0]
        if self.live is None:
            raise InvalidCommand()
        if word in DEEDS:
            deed = DEEDS[word]
            return titles_said(deed(self.live, rest))
        answer = ANSWERS[word]
        return answer(self.live, rest)


def told_words(command):
    """The words of any value that is a command."""
    if not isinstance(command, str) or "\n" in command:
        raise InvalidCommand()
    words = command.split(" ")
    if "" in words or not is_form(words[0], words[1:]):
        raise InvalidCommand()
    return words


def is_form(word, rest):
    """Whether a first word and the rest of the words are a command of some form."""
    if word not in WORDS:
        return False
    if word in ("tied", "tying"):
        return len(rest) >= WORDS[word]
    if len(rest) != WORDS[word]:
        return False
    return word not in ("board", "cut") or is_short_number(rest[-1])


def titles_said(titles):
    """The text of titles."""
    return word_of(" ".join(titles))


def lots_said(lots):
    """The text of lots of posts."""
    return " ".join([lot if lot else "=" for lot in lots])


def lay(live, words):
    """Lay a rope; "-" stands for the empty row."""
    title, word = words
    return live.lay(title, "" if word == "-" else word)


def splice(live, words):
    """Lay a rope of two ropes."""
    title, one, other = words
    return live.splice(title, one, other)


def turn(live, words):
    """Lay a turned rope."""
    title, one = words
    return live.turn(title, one)


def cut(live, words):
    """Cut a rope in two."""
    title, rest, many = words
    return live.cut(title, rest, int(many))


def drop(live, words):
    """Take a rope away."""
    return live.drop(words[0])


def pull(live, words):
    """Pull a post."""
    return live.pull(words[0])


def put(live, words):
    """Set a post again."""
    return live.put(words[0])


def now(live, words):
    """Tell the row of a rope now."""
    return word_of(live.now(words[0]))


def laid(live, words):
    """Tell the laid row of a rope."""
    return word_of(live.laid(words[0]))


def bundles(live, _):
    """Tell which ropes are alike now."""
    return word_of(" ; ".join([" ".join(titles) for titles in live.bundles()]))


def tied(live, words):
    """Tell whether a rope is tied of other ones."""
    return "yes" if live.tied(words[0], words[1:]) else "no"


def tying(live, words):
    """Tell with which posts pulled a rope would be tied of other ones."""
    return lots_said(live.tying(words[0], words[1:]))


def merge(live, words):
    """Tell with which posts pulled two ropes would be alike."""
    one, other = words
    return lots_said(live.merging(one, other))


def fall(live, words):
    """Tell with which posts pulled a rope would fall."""
    return lots_said(live.least_fall(words[0]))


def text(live, _):
    """Tell the text of the board."""
    return str(live).replace("\n", " ; ")


def undo(live, _):
    """Take the last deed back."""
    return "undone" if live.undo() else "nothing"


DEEDS = {"lay": lay, "splice": splice, "turn": turn, "cut": cut, "drop": drop, "pull": pull, "put": put}
ANSWERS = {
    "now": now, "laid": laid, "bundles": bundles, "tied": tied, "tying": tying, "merge": merge, "fall": fall,
    "text": text, "undo": undo,
}
