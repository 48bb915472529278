"""Covers by numbers: all covers of a table stand in the order of lists, and are counted from 0."""

from undocover.errors import BadNumber, NoCover
from undocover.finding import covers_from
from undocover.tables import check_choices, check_table, is_within, unclashed


def all_covers(table):
    """All covers of a table, in order."""
    check_table(table)
    return covers_from(table, [], unclashed(table, []))


def how_many(table):
    """How many covers a table has."""
    return len(all_covers(table))


def by_number(table, number):
    """The cover of a number."""
    covers = all_covers(table)
    if not is_within(number, 0, len(covers) - 1):
        raise BadNumber("this is no number of a cover")
    return covers[number]


def number_of(table, cover):
    """The number of a cover."""
    return place_of(table, all_covers(table), cover)


def next_one(table, cover):
    """The cover behind a cover, or None behind the last one."""
    covers = all_covers(table)
    place = place_of(table, covers, cover) + 1
    return covers[place] if place < len(covers) else None


def place_of(table, covers, cover):
    """Where a cover stands among all covers of the table."""
    check_choices(table, cover)
    if cover not in covers:
        raise NoCover("this is no cover of the table")
    return covers.index(cover)
