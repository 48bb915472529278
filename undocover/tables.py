"""Tables: main things, things beside, and choices that have some of them."""

from undocover.errors import BadChoice, BadTable, TooGreat

MOST_MAIN = 10
MOST_BESIDE = 6
MOST_CHOICES = 16
MOST_COLOUR = 9


def clash(table, one, other):
    """Whether two choices clash; each is told by its count."""
    check_table(table)
    check_choice(table, one)
    check_choice(table, other)
    return are_clashing(table, one, other)


def going(table, choices):
    """Whether some choices go together."""
    check_table(table)
    check_choices(table, choices)
    return go_together(table, choices)


def bare(table, choices):
    """The main things that none of some choices has, rising."""
    check_table(table)
    check_choices(table, choices)
    return bare_things(table, choices)


def check_table(table):
    """Raise BadTable if it is no table."""
    if not is_table(table):
        raise BadTable("this is no table")


def check_choice(table, choice):
    """Raise BadChoice if it is no count of a choice of the table."""
    if not is_count(table, choice):
        raise BadChoice("this is no count of a choice")


def check_choices(table, choices):
    """Raise BadChoice if it is no rising list of counts of choices of the table."""
    if not are_counts(table, choices):
        raise BadChoice("this is no rising list of counts of choices")


def check_made(table):
    """Raise TooGreat if what was put together, right but for its bounds, is no table."""
    if not is_table(table):
        raise TooGreat("this would be beyond the bounds of a table")


def is_number(value):
    """Whether it is a whole number; True and False are none, although Python counts them so."""
    return isinstance(value, int) and not isinstance(value, bool)


def is_within(value, least, most):
    """Whether it is a number from the least to the most."""
    return is_number(value) and least <= value <= most


def is_rising(numbers):
    """Whether each number of a list is greater than the one ahead of it."""
    return all([low < high for low, high in zip(numbers, numbers[1:])])


def is_table(table):
    """Whether it is a table, of whatever kind it may be."""
    if not isinstance(table, tuple) or len(table) != 3:
        return False
    main, beside, rows = table
    if not is_within(main, 1, MOST_MAIN) or not is_within(beside, 0, MOST_BESIDE):
        return False
    if not isinstance(rows, list) or len(rows) > MOST_CHOICES:
        return False
    return all([is_row(main, beside, row) for row in rows])


def is_row(main, beside, row):
    """Whether it is a choice's list of items, in a table of so many things."""
    if not isinstance(row, list) or len(row) == 0:
        return False
    if not all([is_item(main, beside, item) for item in row]):
        return False
    things = [item[0] for item in row]
    return things[0] < main and is_rising(things)


def is_item(main, beside, item):
    """Whether it is a pair of a thing and a colour that the thing may have."""
    if not isinstance(item, tuple) or len(item) != 2:
        return False
    thing, colour = item
    if not is_within(thing, 0, main + beside - 1):
        return False
    return is_within(colour, 0, 0 if thing < main else MOST_COLOUR)


def is_count(table, choice):
    """Whether it is the count of a choice of the table."""
    return is_within(choice, 0, len(table[2]) - 1)


def are_counts(table, choices):
    """Whether it is a rising list of counts of choices of the table."""
    if not isinstance(choices, list):
        return False
    return all([is_count(table, choice) for choice in choices]) and is_rising(choices)


def are_clashing(table, one, other):
    """Whether two choices, counts of the table, clash."""
    colours = dict(table[2][other])
    shared = [(thing, colour) for thing, colour in table[2][one] if thing in colours]
    return any([thing < table[0] or colour == 0 or colour != colours[thing] for thing, colour in shared])


def has_thing(table, choice, thing):
    """Whether a choice, a count of the table, has a thing."""
    return any([item[0] == thing for item in table[2][choice]])


def having(table, choices, thing):
    """Those of the choices that have a thing, in their turn."""
    return [choice for choice in choices if has_thing(table, choice, thing)]


def go_together(table, choices):
    """Whether no two of the choices, at unlike places, clash."""
    return all([not clashes_with(table, choice, choices[:at]) for at, choice in enumerate(choices)])


def clashes_with(table, choice, others):
    """Whether a choice clashes with one of the others."""
    return any([are_clashing(table, choice, other) for other in others])


def bare_things(table, choices):
    """The main things that none of the choices has, rising."""
    had = [item[0] for choice in choices for item in table[2][choice]]
    return [thing for thing in range(table[0]) if thing not in had]


def unclashed(table, taken):
    """The choices that clash with none of the taken ones, rising."""
    return [choice for choice in range(len(table[2])) if not clashes_with(table, choice, taken)]


def left_by(table, choices, taken):
    """Those of the choices that do not clash with one that is taken, in their turn."""
    return [choice for choice in choices if not are_clashing(table, choice, taken)]


def is_cover(table, choices):
    """Whether it is a cover of the table."""
    if not are_counts(table, choices):
        return False
    return go_together(table, choices) and len(bare_things(table, choices)) == 0
