"""Parts: main things that choices lead together; and in how many covers each choice is."""

from undocover.errors import BadNumber, NoCover
from undocover.ranks import all_covers, how_many
from undocover.tables import check_table, is_within


def parts(table):
    """The parts of a table, each rising, by their least things."""
    check_table(table)
    main_things = [[thing for thing in group if thing < table[0]] for group in groups_of(table)]
    return sorted([part for part in main_things if len(part) > 0])


def part_table(table, number):
    """The table of a part, and the counts that its choices have in the whole table."""
    all_parts = parts(table)
    if not is_within(number, 0, len(all_parts) - 1):
        raise BadNumber("this is no count of a part")
    part = all_parts[number]
    # A choice's first thing is main, and its main things are all in one part.
    counts = [choice for choice, row in enumerate(table[2]) if row[0][0] in part]
    names = part_names(table, part)
    rows = [[(names[thing], colour) for thing, colour in table[2][choice]] for choice in counts]
    return (len(part), table[1], rows), counts


def uses(table):
    """For each choice, in how many covers it is."""
    covers = all_covers(table)
    return [len([cover for cover in covers if choice in cover]) for choice in range(len(table[2]))]


def idle(table):
    """The choices that are in no cover, rising."""
    return [choice for choice, many in enumerate(uses(table)) if many == 0]


def forced(table):
    """The choices that are in all covers, rising."""
    total = how_many(table)
    if total == 0:
        raise NoCover("there is no cover")
    return [choice for choice, many in enumerate(uses(table)) if many == total]


def groups_of(table):
    """All things, those beside too, in lists of those that are together."""
    groups = [[thing] for thing in range(table[0] + table[1])]
    for row in table[2]:
        things = [item[0] for item in row]
        met = [group for group in groups if any([thing in things for thing in group])]
        others = [group for group in groups if group not in met]
        groups = [*others, sorted([thing for group in met for thing in group])]
    return groups


def part_names(table, part):
    """For each thing that a choice of the part may have, its count in the table of the part."""
    beside = list(range(table[0], table[0] + table[1]))
    return {thing: at for at, thing in enumerate(part + beside)}
