"""Live boards: ropes with titles, and posts that are pulled and set again."""

from ropesheld.errors import InvalidBoard, InvalidText, NoPost, NoRope, Refused
from ropesheld.maps import is_row_word
from ropesheld.nets import is_tied
from ropesheld.pulled import falling, least_lots
from ropesheld.rows import reduced, turned, without
from ropesheld.signs import POSTS, check_row, is_number, is_posts, word_of
from ropesheld.wishes import is_lot


class Live:
    """A board that goes on: each deed tells at which ropes the row now is another one."""

    def __init__(self, posts):
        if not is_posts(posts):
            raise InvalidBoard("posts")
        self.posts = posts
        self.gone = ""
        # Deeds put other values in the place of these, and change none of them: so what was is kept as it is.
        self.ropes = {}
        self.past = ()

    def __len__(self):
        return len(self.past)

    def __str__(self):
        first = [f"board {self.posts} {word_of(self.gone)}"]
        return "\n".join(first + [f"rope {title} {word_of(self.ropes[title])}" for title in self.titles()])

    @staticmethod
    def read(text):
        """The live board of a text, without deeds."""
        if not isinstance(text, str):
            raise InvalidText(0)
        lines = text.split("\n")
        words = lines[0].split(" ")
        if not is_board_line(words):
            raise InvalidText(0)
        live, last = Live(int(words[1])), ""
        live.gone = "" if words[2] == "-" else words[2]
        for at, line in enumerate(lines[1:], start=1):
            words = line.split(" ")
            if not is_rope_line(words, live.posts) or words[1] <= last:
                raise InvalidText(at)
            _, last, row = words
            live.ropes[last] = "" if row == "-" else row
        return live

    def check_rope(self, title):
        """Raise NoRope for any value that is no title of a rope."""
        if not isinstance(title, str) or title not in self.ropes:
            raise NoRope(title)

    def check_post(self, post):
        """Raise NoPost for any value that is no post of the board."""
        if post not in list(POSTS[:self.posts]):
            raise NoPost(post)

    def laid(self, title):
        """The row of a rope as it was passed."""
        self.check_rope(title)
        return self.ropes[title]

    def now(self, title):
        """The row of a rope without the signs of pulled posts, reduced."""
        return row_now(self.laid(title), self.gone)

    def titles(self):
        """All titles, ascending."""
        return tuple(sorted(list(self.ropes)))

    def changed(self, ropes, gone):
        """Take over what a deed leads to, and tell the titles that are new, or whose row now is another one."""
        before = {title: row_now(row, self.gone) for title, row in self.ropes.items()}
        self.past = (*self.past, (self.ropes, self.gone))
        self.ropes, self.gone = ropes, gone
        return tuple([title for title in self.titles() if before.get(title) != row_now(ropes[title], gone)])

    def lay(self, title, row):
        """Lay a rope."""
        check_title(title)
        check_row(row, self.posts)
        return self.changed({**self.ropes, title: row}, self.gone)

    def splice(self, title, one, other):
        """Lay a rope whose laid row is that of the one and then that of the other one."""
        check_title(title)
        row = self.laid(one) + self.laid(other)
        return self.changed({**self.ropes, title: row}, self.gone)

    def turn(self, title, one):
        """Lay a rope whose laid row is that of the one, turned."""
        check_title(title)
        row = turned(self.laid(one))
        return self.changed({**self.ropes, title: row}, self.gone)

    def cut(self, title, rest, many):
        """Keep so many signs of a rope; the others are laid as another rope."""
        row = self.laid(title)
        if not is_title(rest) or rest == title:
            raise InvalidBoard("rest")
        if not is_number(many) or many > len(row):
            raise Refused(len(row))
        return self.changed({**self.ropes, title: row[:many], rest: row[many:]}, self.gone)

    def drop(self, title):
        """Take a rope away."""
        self.check_rope(title)
        return self.changed({held: row for held, row in self.ropes.items() if held != title}, self.gone)

    def pull(self, post):
        """Pull a post."""
        self.check_post(post)
        if post in self.gone:
            raise Refused(len(self.gone))
        return self.changed(self.ropes, "".join(sorted(self.gone + post)))

    def put(self, post):
        """Set a post again."""
        self.check_post(post)
        if post not in self.gone:
            raise Refused(len(self.gone))
        return self.changed(self.ropes, self.gone.replace(post, ""))

    def bundles(self):
        """The bundles of the titles of ropes that are alike now, ascending."""
        found = {}
        for title in self.titles():
            found.setdefault(self.now(title), []).append(title)
        # Titles are taken in order, so the bundles come by their first ones.
        return tuple([tuple(titles) for titles in found.values()])

    def fallen(self):
        """The titles of the ropes whose row now is empty, ascending."""
        return tuple([title for title in self.titles() if self.now(title) == ""])

    def merging(self, one, other):
        """The least lots of standing posts with which pulled two ropes would be alike."""
        # Signs of pulled posts are gone, so no least lot has one.
        return falling(self.now(one) + turned(self.now(other)), self.posts)

    def least_fall(self, title):
        """The least lots of standing posts with which pulled a rope would fall."""
        return falling(self.now(title), self.posts)

    def cheapest(self, one, other, prices):
        """The pair of the least sum of prices with which two ropes would be alike, and the first lot of this sum."""
        found = [(sum([prices[POSTS.index(post)] for post in lot]), lot) for lot in self.merging(one, other)]
        return min(found, key=lambda pair: pair[0])

    def tied(self, title, others):
        """Whether the row of a rope now is tied of those of other ones."""
        row, rows = self.now(title), [self.now(other) for other in others]
        return is_tied(rows, row)

    def tying(self, title, others):
        """The least lots of standing posts with which pulled a rope would be tied of other ones."""
        row, rows = self.now(title), [self.now(other) for other in others]
        return least_lots(self.posts, lambda lot: is_tied([row_now(held, lot) for held in rows], row_now(row, lot)))

    def undo(self):
        """Take the last deed back, and tell whether there was one."""
        if not self.past:
            return False
        self.ropes, self.gone = self.past[-1]
        self.past = self.past[:-1]
        return True

    def within(self, work):
        """Call some work with the board and return what it returns; behind it all is as ahead."""
        ropes, gone, past = self.ropes, self.gone, self.past
        try:
            return work(self)
        finally:
            self.ropes, self.gone, self.past = ropes, gone, past


def is_title(value):
    """Whether any value is a title."""
    return isinstance(value, str) and 2 <= len(value) <= 5 and value.isascii() and value.isalpha() and value.islower()


def check_title(title):
    """Raise InvalidBoard for any value that is no title."""
    if not is_title(title):
        raise InvalidBoard("title")


def row_now(row, gone):
    """The reduced row without the signs of pulled posts."""
    return reduced(without(row, gone))


def is_board_line(words):
    """Whether the words of the first line of a text tell a board and its pulled posts."""
    if len(words) != 3 or words[0] != "board" or words[1] not in list("12345678"):
        return False
    return words[2] == "-" or words[2] != "" and is_lot(words[2], int(words[1]))


def is_rope_line(words, posts):
    """Whether the words of a line of a text tell a rope of a board."""
    return len(words) == 3 and words[0] == "rope" and is_title(words[1]) and is_row_word(words[2], posts)
