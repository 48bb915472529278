"""Tables put together: two beside one another, one without a choice, renamed, rearranged."""

from undocover.answers import copied
from undocover.errors import BadOrder
from undocover.tables import check_choice, check_made, check_table, is_number


def put_beside(one, other):
    """A table of the things and choices of both: those of the first, then of the second, the main things first."""
    check_table(one)
    check_table(other)
    rows = [moved(row, one[0], 0, other[0]) for row in one[2]]
    other_rows = [moved(row, other[0], one[0], one[0] + one[1]) for row in other[2]]
    made = (one[0] + other[0], one[1] + other[1], rows + other_rows)
    check_made(made)
    return made


def without(table, choice):
    """The table without a choice: those behind it move up."""
    check_table(table)
    check_choice(table, choice)
    return copied((table[0], table[1], table[2][:choice] + table[2][choice + 1:]))


def renamed(table, order):
    """The table with its main things in another order: what stands at place k of it is thing k."""
    check_table(table)
    check_order(order, table[0])
    names = order + list(range(table[0], table[0] + table[1]))
    rows = [sorted([(names.index(thing), colour) for thing, colour in row]) for row in table[2]]
    return (table[0], table[1], rows)


def rearranged(table, order):
    """The table with its choices in another order: what stands at place k of it is choice k."""
    check_table(table)
    check_order(order, len(table[2]))
    return copied((table[0], table[1], [table[2][choice] for choice in order]))


def moved(row, main, by_main, by_beside):
    """A choice of a table of so many main things, with these and the things beside moved behind others."""
    return [(thing + (by_main if thing < main else by_beside), colour) for thing, colour in row]


def check_order(order, many):
    """Raise BadOrder if it is no list of the counts of so many, each once."""
    if not is_order(order, many):
        raise BadOrder("this is no order of all of them")


def is_order(order, many):
    """Whether it is a list of the counts of so many, each once."""
    if not isinstance(order, list) or not all([is_number(count) for count in order]):
        return False
    return sorted(order) == list(range(many))
