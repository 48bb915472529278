"""Answers: what is told of a table, and trees, which tell that it has no cover.

Trees are walked by lists of what is still to do, not by calls within calls, as they may be deeper than calls can go.
"""

from undocover.tables import bare_things, having, is_cover, is_number, left_by, unclashed

STUCK = "stuck"
SPLIT = "split"


class Answer:
    """What is told of a table."""


class Cover(Answer):
    """A cover: the counts of its choices, rising."""

    def __init__(self, choices):
        self.choices = copied(choices)

    def shows(self, table):
        """Whether the choices, as they stand now, are a cover of the table."""
        return is_cover(table, self.choices)


class Barred(Answer):
    """A tree that tells that there is no cover."""

    def __init__(self, tree):
        self.tree = copied(tree)

    def shows(self, table):
        """Whether the tree, as it stands now, is one of the table."""
        return is_tree(table, [], unclashed(table, []), self.tree)


class Best(Answer):
    """A cover whose choices cost the least together, and that price."""

    def __init__(self, choices, price):
        self.choices = copied(choices)
        self.price = price


def copied(value):
    """The same value with each list in it made anew, those within lists and tuples too."""
    made = []
    todo = [(value, False)]
    while todo:
        part, parts_made = todo.pop()
        if not isinstance(part, (list, tuple)):
            made.append(part)
        elif parts_made:
            start = len(made) - len(part)
            copies = made[start:]
            del made[start:]
            made.append(copies if isinstance(part, list) else tuple(copies))
        else:
            todo.append((part, True))
            todo.extend([(inner, False) for inner in reversed(part)])
    return made[0]


def is_tree(table, taken, free, tree):
    """Whether it is a tree of the table, from these taken choices on, where just the free ones are open."""
    todo = [(taken, free, tree)]
    while todo:
        some, left, node = todo.pop()
        if not is_node(node) or not node_holds(table, some, left, node):
            return False
        if node[0] == SPLIT:
            todo.extend([([*some, choice], left_by(table, left, choice), inner) for choice, inner in node[2]])
    return True


def is_node(node):
    """Whether it has one of the two forms of a tree, the trees within it left out."""
    if not isinstance(node, tuple) or len(node) < 2 or not is_number(node[1]):
        return False
    if node[0] == STUCK:
        return len(node) == 2
    return node[0] == SPLIT and len(node) == 3 and are_branches(node[2])


def are_branches(branches):
    """Whether it is a list of pairs, each with a number in front."""
    if not isinstance(branches, list):
        return False
    return all([isinstance(pair, tuple) and len(pair) == 2 and is_number(pair[0]) for pair in branches])


def node_holds(table, taken, free, node):
    """Whether what a node says itself is so when these choices are taken, and those still open.

    As its thing must be bare, each split takes one more main thing: no tree that holds so far goes on for long.
    """
    thing = node[1]
    if thing not in bare_things(table, taken):
        return False
    branching = having(table, free, thing)
    if node[0] == STUCK:
        return len(branching) == 0
    return len(branching) > 0 and [pair[0] for pair in node[2]] == branching
