"""Finding: the first cover of a table, or a tree that tells that there is none.

Covers and trees are found by splits: of a main thing that is still bare, each open choice that has it is taken in turn.
As each cover has just one of these choices, it is come upon just once.
"""

from undocover.answers import SPLIT, STUCK, Barred, Cover
from undocover.tables import bare_things, check_table, having, left_by, unclashed


def sought(table):
    """The first cover of a table, a Cover, or a Barred where there is none."""
    check_table(table)
    return found_from(table, [], unclashed(table, []))


def found_from(table, taken, free):
    """The first cover with the taken choices and else free ones only, or a Barred where there is none.

    The free choices are rising, and none of them clashes with a taken one; so it is for all that follow.
    """
    covers = covers_from(table, taken, free)
    if len(covers) > 0:
        return Cover(covers[0])
    return Barred(tree_from(table, taken, free))


def covers_from(table, taken, free):
    """All covers with the taken choices and else free ones only, in the order of lists."""
    covers = []
    todo = [(taken, free)]
    while todo:
        some, left = todo.pop()
        things = bare_things(table, some)
        if len(things) == 0:
            covers.append(sorted(some))
        else:
            thing = least_had(table, things, left)
            todo.extend([([*some, choice], left_by(table, left, choice)) for choice in having(table, left, thing)])
    return sorted(covers)


def tree_from(table, taken, free):
    """A tree that tells that there is no such cover; asked just where there is none.

    Each call within a call takes one more choice, so they go no deeper than there are main things.
    """
    thing = least_had(table, bare_things(table, taken), free)
    choices = having(table, free, thing)
    if len(choices) == 0:
        return (STUCK, thing)
    branches = [(choice, tree_from(table, [*taken, choice], left_by(table, free, choice))) for choice in choices]
    return (SPLIT, thing, branches)


def least_had(table, things, choices):
    """The first of the things that the fewest of the choices have: to split it keeps trees small."""
    return min(things, key=lambda thing: len(having(table, choices, thing)))
