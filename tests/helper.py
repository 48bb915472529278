"""What several tests use: values of other kinds, tables by chance from a fixed seed, and the
document's points [3] to [5] written once more, in another way than the package has them."""

import itertools
import random

# None of these is a number from 0 to 20, a pair, a triple, or a list of two or more.
OTHER_KINDS = [
    None, True, False, "", "0", "ab", "stuck", b"", b"\x00", b"ab", (), [], {}, {0: 0}, {0, 1}, frozenset([0, 1]),
    [0], (0,), [[0]], ((0, 0),), [None], "abc", object(), len, int, ValueError, range(2), iter([0, 1]), lambda: 0,
    -1, -10 ** 30, 10 ** 30,
]


def have_clash(table, one, other):
    main, beside, rows = table
    had, its_had = [{thing for thing, colour in rows[choice] if thing < main} for choice in (one, other)]
    if had & its_had:
        return True
    for (thing, colour), (another, its) in itertools.product(rows[one], rows[other]):
        if thing == another and not (colour == its and colour > 0):
            return True
    return False


def bare_by(table, choices):
    return sorted(set(range(table[0])) - {thing for choice in choices for thing, colour in table[2][choice]})


def covers_of(table):
    """All covers, by trying all sets of choices."""
    counts = range(len(table[2]))
    tried = [list(some) for size in range(table[0] + 1) for some in itertools.combinations(counts, size)]
    return sorted(some for some in tried if not bare_by(table, some)
                  and not any(have_clash(table, one, other) for one, other in itertools.combinations(some, 2)))


def open_having(table, taken, thing):
    return [choice for choice, row in enumerate(table[2]) if thing in dict(row)
            and not any(have_clash(table, choice, other) for other in taken)]


def some_tree(table, chance, taken=()):
    """A tree of a table without a cover, with a bare thing taken by chance at each split."""
    things = bare_by(table, taken)
    stuck = [thing for thing in things if not open_having(table, taken, thing)]
    if stuck and chance.random() < 0.7:
        return "stuck", chance.choice(stuck)
    splits = [thing for thing in things if thing not in stuck]
    if not splits:
        return "stuck", chance.choice(stuck)
    thing = chance.choice(splits)
    return "split", thing, [(choice, some_tree(table, chance, (*taken, choice)))
                            for choice in open_having(table, taken, thing)]


def holds(table, tree, taken=()):
    """Whether a tree of one of the two forms is one of the table, by the words of [5]."""
    if tree[1] not in bare_by(table, taken):
        return False
    having = open_having(table, taken, tree[1])
    if tree[0] == "stuck":
        return not having
    if not tree[2] or [choice for choice, inner in tree[2]] != having:
        return False
    return all(holds(table, inner, (*taken, choice)) for choice, inner in tree[2])


def some_row(main, beside, chance):
    things = chance.sample(range(main), chance.randint(1, min(main, 3)))
    others = chance.sample(range(main, main + beside), chance.randint(0, min(beside, 2)))
    coloured = [(thing, chance.choice([0, 1, 1, 2, 9])) for thing in sorted(others)]
    return [(thing, 0) for thing in sorted(things)] + coloured


def some_tables(many, seed):
    chance = random.Random(seed)
    tables = []
    for turn in range(many):
        main, beside = chance.randint(1, 5), chance.randint(0, 3)
        tables.append((main, beside, [some_row(main, beside, chance) for place in range(chance.randint(0, 8))]))
    return tables


def barred_tables(many, seed):
    """The first so many of some tables that have no cover."""
    return [table for table in some_tables(many * 10, seed) if not covers_of(table)][:many]
