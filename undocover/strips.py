"""Strips: places laid with bars, one behind the other.

The layings may be far too many to be gone through: they are counted by how many a shorter strip has.
"""

from undocover.errors import BadBars, BadNumber
from undocover.tables import check_made, is_within

MOST_BARS = 8
MOST_LENGTH = 30
MOST_PLACES = 300


def layings(bars, places):
    """How many layings a strip has."""
    check_strip(bars, places)
    return layings_up_to(bars, places)[places]


def laying(bars, places, number):
    """The laying of a number."""
    check_strip(bars, places)
    many = layings_up_to(bars, places)
    if not is_within(number, 0, many[places] - 1):
        raise BadNumber("this is no number of a laying")
    made = []
    ahead = number
    rest = places
    while rest > 0:
        begun = begun_with(bars, many, rest)
        bar = 0
        while ahead >= begun[bar]:
            ahead -= begun[bar]
            bar += 1
        made.append(bar)
        rest -= bars[bar]
    return made


def number_in(bars, places, some):
    """The number of a laying: how many stand ahead of it."""
    check_strip(bars, places)
    if not is_laying(bars, places, some):
        raise BadBars("this is no list of counts of bars that are together as long as the strip")
    many = layings_up_to(bars, places)
    number = 0
    rest = places
    for bar in some:
        number += sum(begun_with(bars, many, rest)[:bar])
        rest -= bars[bar]
    return number


def strip_table(bars, places):
    """The table of a strip: a choice for each place, and for each bar that fits from it on."""
    check_strip(bars, places)
    starts = [(place, length) for place in range(places) for length in bars if place + length <= places]
    rows = [[(thing, 0) for thing in range(place, place + length)] for place, length in starts]
    made = (places, 0, rows)
    check_made(made)
    return made


def check_strip(bars, places):
    """Raise BadBars if these are no bars, then BadNumber if it is no count of places."""
    if not are_bars(bars):
        raise BadBars("this is no list of lengths of bars")
    if not is_within(places, 0, MOST_PLACES):
        raise BadNumber("this is no count of places")


def are_bars(bars):
    """Whether it is a list of lengths, as many and as great as they may be."""
    if not isinstance(bars, list) or not is_within(len(bars), 1, MOST_BARS):
        return False
    return all([is_within(length, 1, MOST_LENGTH) for length in bars])


def is_laying(bars, places, some):
    """Whether it is a list of counts of bars that are together as long as the strip."""
    if not isinstance(some, list) or not all([is_within(bar, 0, len(bars) - 1) for bar in some]):
        return False
    return sum([bars[bar] for bar in some]) == places


def layings_up_to(bars, places):
    """How many layings each strip has, from none up to so many places."""
    many = [1]
    for rest in range(1, places + 1):
        many.append(sum(begun_with(bars, many, rest)))
    return many


def begun_with(bars, many, rest):
    """For each bar, how many layings of the rest begin with it."""
    return [many[rest - length] if length <= rest else 0 for length in bars]
