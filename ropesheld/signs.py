"""What all modules share: signs and their order, kinds of values, and how chains of strings are compared."""

from ropesheld.errors import InvalidRow

POSTS = "abcdefgh"
SIGNS = "aAbBcCdDeEfFgGhH"
MOST_POSTS = 8


def signs_of(posts):
    """The signs of so many posts, in order."""
    return SIGNS[:2 * posts]


def first_wrong(value, allowed):
    """The number of the first thing in a value that is none of the allowed characters, or None."""
    if not isinstance(value, str):
        return 0
    rest = value.lstrip(allowed)
    return len(value) - len(rest) if rest else None


def is_row(value, posts=MOST_POSTS):
    """Whether any value is a row of so many posts."""
    return first_wrong(value, signs_of(posts)) is None


def check_row(row, posts=MOST_POSTS):
    """Raise InvalidRow for any value that is no row of so many posts."""
    at = first_wrong(row, signs_of(posts))
    if at is not None:
        raise InvalidRow(at)


def word_of(row):
    """The word that stands for a row in a text: "-" for the empty one."""
    return row if row else "-"


def row_order(row):
    """The key by which rows are ascending: shorter ones first, then sign by sign."""
    return len(row), row.translate(str.maketrans("aAbBcCdDeEfFgGhH", "abcdefghijklmnop"))


def is_integer(value):
    """Whether any value is an integer."""
    return isinstance(value, int) and not isinstance(value, bool)


def is_number(value):
    """Whether any value is an integer from 0 on."""
    return is_integer(value) and value >= 0


def is_posts(value):
    """Whether any value is a number of posts."""
    return is_number(value) and 1 <= value <= MOST_POSTS


def is_sequence(value):
    """Whether any value is a list or a tuple."""
    return isinstance(value, (list, tuple))


def agreeing(one, other):
    """How many characters agree ahead of the first one that does not."""
    low, high = 0, min(len(one), len(other))
    # Halving compares whole slices, which is far faster than one character after the other.
    while low < high:
        middle = (low + high + 1) // 2
        if one[:middle] == other[:middle]:
            low = middle
        else:
            high = middle - 1
    return low


def taken_out(longer, shorter):
    """The two neighbouring characters without which the longer string is the shorter one, or ""."""
    # Where a pair and its other way about alternate, any of them may go: so the last place tells as well as the first.
    at = agreeing(longer, shorter)
    return longer[at:at + 2] if longer[:at] + longer[at + 2:] == shorter else ""


def meeting_chain(there, back):
    """The chain from the first thing of one list to the first of another one, where both lists end alike."""
    last = 1
    while last < min(len(there), len(back)) and there[-last - 1] == back[-last - 1]:
        last += 1
    return tuple(there[:len(there) - last + 1] + back[:len(back) - last][::-1])


def is_chain(value, one, other, is_link, is_step):
    """Whether any value is a tuple of links from the one to the other, each next one led to by one step."""
    if not isinstance(value, tuple) or len(value) == 0 or not all([is_link(link) for link in value]):
        return False
    if value[0] != one or value[-1] != other:
        return False
    return all([is_step(link, following) for link, following in zip(value, value[1:])])
