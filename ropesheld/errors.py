"""The errors that the package raises; each keeps what it was made of in attributes."""


class RopeError(ValueError):
    """The base of the errors about values of a wrong form."""


class InvalidRow(RopeError):
    """Not a row: `at` is the number of the first thing in it that is no sign."""

    def __init__(self, at):
        self.at = at


class InvalidWalk(RopeError):
    """Not a walk: `at` is the number of the first thing in it that is no step."""

    def __init__(self, at):
        self.at = at


class InvalidHouse(RopeError):
    """Not a house: `at` is the number of the first thing in it that is no swap."""

    def __init__(self, at):
        self.at = at


class InvalidWish(RopeError):
    """Not a wish: `at` is the number of the first thing in it that is no lot."""

    def __init__(self, at):
        self.at = at


class InvalidWeb(RopeError):
    """Not a web: `word` is the name of the first argument that is wrong."""

    def __init__(self, word):
        self.word = word


class InvalidMap(RopeError):
    """Not a map: `word` is the name of the first argument that is wrong."""

    def __init__(self, word):
        self.word = word


class InvalidLead(RopeError):
    """Not leads: `at` is the number of the first thing in them that is no lead."""

    def __init__(self, at):
        self.at = at


class InvalidText(RopeError):
    """Not a text of the told kind: `at` is the number of its first part that is wrong."""

    def __init__(self, at):
        self.at = at


class InvalidBoard(RopeError):
    """Not for this board: `word` is the name of the argument that is wrong."""

    def __init__(self, word):
        self.word = word


class InvalidCommand(RopeError):
    """Not a command of the desk."""


class NoTrain(RopeError):
    """Not a train, or not smooth: `word` is the name of what is not."""

    def __init__(self, word):
        self.word = word


class Refused(RopeError):
    """A deed that cannot be done as things are: `at` is how far it could be."""

    def __init__(self, at):
        self.at = at


class NoPost(KeyError):
    """There is no post of this name."""

    def __init__(self, name):
        self.name = name


class NoRope(KeyError):
    """There is no rope of this title."""

    def __init__(self, title):
        self.title = title
