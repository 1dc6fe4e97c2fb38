"""Side houses: houses of swaps that show that a rope is not tied of told ropes."""

from ropesheld.houses import House, led_to
from ropesheld.parting import filled_swap
from ropesheld.signs import POSTS
from ropesheld.tying import check_told
from ropesheld.webs import Web, with_line


def side_house(posts, ropes, row):
    """Some house in which each told rope leads the thing 0 to itself and the row does not, or None for a tied row."""
    check_told(posts, ropes, row)
    web = Web(posts, ropes)
    if web.has(row):
        return None
    net, _ = with_line(web, row)
    swaps = []
    for post in POSTS[:posts]:
        goals = {place: steps[post] for place, steps in enumerate(net) if post in steps}
        swaps.append(filled_swap(goals, len(net)))
    return House(swaps)


def side_holds(posts, ropes, row, value):
    """Whether any value is a side house for a row."""
    check_told(posts, ropes, row)
    if not isinstance(value, House) or value.posts != posts or led_to(value, 0, row) == 0:
        return False
    return all([led_to(value, 0, rope) == 0 for rope in ropes])
