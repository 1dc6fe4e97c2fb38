"""Readings: what a house of swaps tells of rows to which a map leads again and again."""

from ropesheld.houses import House, is_still, led_to, swap_of
from ropesheld.signs import check_row


def readings(one, house):
    """The houses that read a map led 0 times, 1 time and so on, all unlike, and the number of the one that comes then.

    In each one the posts do what their rows did in the one ahead.
    """
    found, numbers, held = [], {}, house
    while held.swaps not in numbers:
        numbers[held.swaps] = len(found)
        found.append(held)
        held = House([swap_of(held, row) for row in one.rows])
    return found, numbers[held.swaps]


def reading_rounds(one, house):
    """The least pair (begin, turn) so that all posts do the same led so many times as led a turn of times more."""
    found, begin = readings(one, house)
    return begin, len(found) - begin


def led_at(one, house, thing, row, many):
    """Where the row led so many times leads a thing."""
    check_row(row, house.posts)
    found, begin = readings(one, house)
    at = many if many < begin else begin + (many - begin) % (len(found) - begin)
    return led_to(found[at], thing, row)


def home_times(one, house, row):
    """The numbers of times, below the one at which a reading comes again, at which the row leads all things home."""
    check_row(row, house.posts)
    found, _ = readings(one, house)
    return tuple([many for many, held in enumerate(found) if is_still(held, row)])
