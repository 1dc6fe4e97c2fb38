"""Maps of all ropes: each post is led to a row."""

from ropesheld.errors import InvalidMap, InvalidText
from ropesheld.rows import reduced, turned, windings
from ropesheld.signs import MOST_POSTS, POSTS, check_row, is_posts, is_row, is_sequence, word_of


class Map:
    """A row for each post: a rope is led to what comes if these stand for its signs."""

    def __init__(self, posts, rows):
        check_posts(posts)
        if not is_sequence(rows) or len(rows) != posts or not all([is_row(row, posts) for row in rows]):
            raise InvalidMap("rows")
        self.posts = posts
        self.rows = tuple([reduced(row) for row in rows])

    def __eq__(self, other):
        return isinstance(other, Map) and self.posts == other.posts and self.rows == other.rows

    def __str__(self):
        return ",".join([word_of(row) for row in self.rows])

    @staticmethod
    def read(posts, text):
        """The map with such a text."""
        check_posts(posts)
        if not isinstance(text, str):
            raise InvalidText(0)
        words = text.split(",")
        if len(words) != posts or not all([is_row_word(word, posts) for word in words]):
            raise InvalidText(0)
        return Map(posts, ["" if word == "-" else word for word in words])

    def led(self, row):
        """The reduced row to which a row is led."""
        check_row(row, self.posts)
        parts = {}
        for post, image in zip(POSTS, self.rows):
            parts[post] = image
            parts[post.upper()] = turned(image)
        return reduced("".join([parts[sign] for sign in row]))


def check_posts(posts):
    """Raise InvalidMap for any value that is no number of posts."""
    if not is_posts(posts):
        raise InvalidMap("posts")


def is_row_word(word, posts):
    """Whether a word of a text tells a row: as it stands, or the empty one as "-"."""
    return word == "-" or word != "" and is_row(word, posts)


def plain_map(posts):
    """The map that leads each post to itself."""
    check_posts(posts)
    return Map(posts, list(POSTS[:posts]))


def turning_map(posts, row):
    """The map that leads each post to a row, the post, and the row turned."""
    check_row(row, posts if is_posts(posts) else MOST_POSTS)
    check_posts(posts)
    return Map(posts, [row + post + turned(row) for post in POSTS[:posts]])


def led_after(one, other):
    """The map that leads as the other one and then as the one."""
    return Map(one.posts, [one.led(row) for row in other.rows])


def table(one):
    """The windings of the rows of a map."""
    return tuple([windings(row, one.posts) for row in one.rows])
