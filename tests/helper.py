"""What several tests use: values of other kinds, tables by chance from a fixed seed, and the
document's points [3] to [5] and [8] written once more, in another way than the package has them."""

import itertools
import random

# None of these is a number from 0 to 20, a pair, a triple, or a list of two or more.
OTHER_KINDS = [
    None, True, False, "", "0", "ab", "stuck", b"", b"\x00", b"ab", (), [], {}, {0: 0}, {0, 1}, frozenset([0, 1]),
    [0], (0,), [[0]], ((0, 0),), [None], "abc", object(), len, int, ValueError, range(2), iter([0, 1]), lambda: 0,
    -1, -10 ** 30, 10 ** 30,
]


def have_clash(table, one, other):
    main, beside, rows = table
    had, its_had = [{thing for thing, colour in rows[choice] if thing < main} for choice in (one, other)]
    if had & its_had:
        return True
    for (thing, colour), (another, its) in itertools.product(rows[one], rows[other]):
        if thing == another and not (colour == its and colour > 0):
            return True
    return False


def bare_by(table, choices):
    return sorted(set(range(table[0])) - {thing for choice in choices for thing, colour in table[2][choice]})


def grown(table, some=()):
    """All rising lists of choices that go together and begin so."""
    yield list(some)
    for choice in range(some[-1] + 1 if some else 0, len(table[2])):
        if not any(have_clash(table, choice, other) for other in some):
            yield from grown(table, (*some, choice))


def covers_of(table, taken=(), barred=()):
    """All covers that have the taken choices and no barred ones, by trying all lists that go together."""
    return sorted(some for some in grown(table) if not bare_by(table, some)
                  and set(taken) <= set(some) and not set(barred) & set(some))


def open_by(table, taken, barred=()):
    return [choice for choice in range(len(table[2])) if choice not in barred
            and not any(have_clash(table, choice, other) for other in taken)]


def open_having(table, taken, thing, barred=()):
    return [choice for choice in open_by(table, taken, barred) if thing in dict(table[2][choice])]


def some_tree(table, chance, taken=(), barred=()):
    """A tree of a table, or a room, without a cover, with a bare thing taken by chance at each split."""
    things = bare_by(table, taken)
    stuck = [thing for thing in things if not open_having(table, taken, thing, barred)]
    if stuck and chance.random() < 0.7:
        return "stuck", chance.choice(stuck)
    splits = [thing for thing in things if thing not in stuck]
    if not splits:
        return "stuck", chance.choice(stuck)
    thing = chance.choice(splits)
    return "split", thing, [(choice, some_tree(table, chance, (*taken, choice), barred))
                            for choice in open_having(table, taken, thing, barred)]


def holds(table, tree, taken=(), barred=()):
    """Whether a tree of one of the two forms is one of the table, or of a room, by the words of [5] and [8]."""
    if tree[1] not in bare_by(table, taken):
        return False
    having = open_having(table, taken, tree[1], barred)
    if tree[0] == "stuck":
        return not having
    if not tree[2] or [choice for choice, inner in tree[2]] != having:
        return False
    return all(holds(table, inner, (*taken, choice), barred) for choice, inner in tree[2])


def changed(tree, table, chance):
    """A tree with one node of it changed in some way."""
    if tree[0] == "split" and tree[2] and chance.random() < 0.6:
        at = chance.randrange(len(tree[2]))
        choice, inner = tree[2][at]
        return "split", tree[1], [*tree[2][:at], (choice, changed(inner, table, chance)), *tree[2][at + 1:]]
    number = chance.choice([*range(-1, sum(table[:2]) + 1), 10 ** 20, -10 ** 20])
    if tree[0] == "stuck" or not tree[2]:
        return chance.choice([("stuck", number), ("split", number, []), ("split", tree[1], [(0, ("stuck", number))])])
    some = list(tree[2])
    at = chance.randrange(len(some))
    return chance.choice([
        ("stuck", tree[1]), ("stuck", number), ("split", number, some), ("split", tree[1], []),
        ("split", tree[1], some[:at] + some[at + 1:]), ("split", tree[1], some[:at] + some[at:at + 1] + some[at:]),
        ("split", tree[1], some[::-1]), ("split", tree[1], some[:at] + [(number, some[at][1])] + some[at + 1:]),
    ])


def chain(many, thing_at):
    """A tree of splits with one pair each, one within the other, and the lists in it, inmost first."""
    lists = []
    tree = ("stuck", thing_at(many))
    for depth in reversed(range(many)):
        lists.append([(thing_at(depth), tree)])
        tree = ("split", thing_at(depth), lists[-1])
    return tree, lists


def ends(tree):
    return 1 if tree[0] == "stuck" else sum(ends(inner) for choice, inner in tree[2])


def deepest(tree):
    """How many nodes stand one within the other, at most."""
    return 1 + max([deepest(inner) for choice, inner in tree[2]] if tree[0] == "split" else [0])


def lists_in(value):
    """Each list in a value, itself and those within lists and tuples."""
    inner = [some for part in value for some in lists_in(part)] if isinstance(value, (list, tuple)) else []
    return [value, *inner] if isinstance(value, list) else inner


def own_things(sizes, more=0):
    """A table where each thing has so many choices of its own, and some more things have none."""
    rows = [[(thing, 0)] for thing, size in enumerate(sizes) for place in range(size)]
    return len(sizes) + more, 0, rows


def tree_of_own_things(sizes):
    """A tree of such a table, with one more thing that has none, that goes through all the others."""
    tree = ("stuck", len(sizes))
    for thing in reversed(range(len(sizes))):
        start = sum(sizes[:thing])
        tree = ("split", thing, [(choice, tree) for choice in range(start, start + sizes[thing])])
    return tree


def done(room, deeds):
    """A room behind some deeds."""
    for word, choice in deeds:
        (room.take if word == "take" else room.bar)(choice)
    return room


def some_row(main, beside, chance):
    things = chance.sample(range(main), chance.randint(1, min(main, 3)))
    others = chance.sample(range(main, main + beside), chance.randint(0, min(beside, 2)))
    coloured = [(thing, chance.choice([0, 1, 1, 2, 9])) for thing in sorted(others)]
    return [(thing, 0) for thing in sorted(things)] + coloured


def some_tables(many, seed, main=5, beside=3, rows=8):
    chance = random.Random(seed)
    tables = []
    for turn in range(many):
        mains, besides = chance.randint(1, main), chance.randint(0, beside)
        tables.append((mains, besides, [some_row(mains, besides, chance) for place in range(chance.randint(0, rows))]))
    return tables


def great_tables(many, seed):
    """Tables with sixteen choices and up to ten main things."""
    return [table for table in some_tables(many * 40, seed, 10, 6, 16) if len(table[2]) == 16][:many]


def barred_tables(many, seed):
    """The first so many of some tables that have no cover."""
    return [table for table in some_tables(many * 10, seed) if not covers_of(table)][:many]
