import itertools
import math
import random
import unittest

from tests.helper import OTHER_KINDS, covers_of, great_tables, own_things, some_tables
from undocover.errors import BadNumber, BadTable, NoCover
from undocover.joining import put_beside, rearranged
from undocover.parts import forced, idle, part_table, parts, uses
from undocover.ranks import all_covers, how_many

# Thing 5 leads things 1 and 4 together; no choice has thing 2.
TABLE = (5, 2, [
    [(4, 0), (5, 2)],
    [(0, 0), (3, 0)],
    [(1, 0), (5, 1)],
    [(3, 0), (6, 3)],
    [(1, 0), (4, 0)],
])
PART_TABLES = [
    ((2, 2, [[(0, 0), (1, 0)], [(1, 0), (3, 3)]]), [1, 3]),
    ((2, 2, [[(1, 0), (2, 2)], [(0, 0), (2, 1)], [(0, 0), (1, 0)]]), [0, 2, 4]),
    ((1, 2, []), []),
]
# Its covers are [0, 1], [0, 4], [2, 3] and [2, 6].
MANY = (3, 1, [
    [(0, 0), (3, 1)],
    [(1, 0), (2, 0), (3, 1)],
    [(0, 0), (1, 0)],
    [(2, 0), (3, 0)],
    [(1, 0), (2, 0)],
    [(1, 0), (3, 2)],
    [(2, 0), (3, 1)],
])
# Its only cover is [1, 2].
ONE = (3, 0, [[(0, 0), (1, 0)], [(1, 0), (2, 0)], [(0, 0)]])
NONE = [(1, 0, []), (2, 0, [[(0, 0)]]), (2, 1, [[(0, 0), (2, 1)], [(1, 0), (2, 2)]])]
WRONG = (2, 0, [[(1, 0), (0, 0)]])


def parts_of(table):
    """The parts by the words of [10]: from each main thing on, what can be come to by choices."""
    found = set()
    for thing in range(table[0]):
        come, more = set(), {thing}
        while more - come:
            come |= more
            more = {other for row in table[2] if come & {had for had, colour in row} for other, colour in row}
        found.add(tuple(sorted(other for other in come if other < table[0])))
    return sorted(map(list, found))


def table_of(table, part):
    """The table of a part by the words of [10]."""
    things = [*part, *range(table[0], sum(table[:2]))]
    counts = [choice for choice, row in enumerate(table[2]) if {had for had, colour in row} & set(part)]
    rows = [[(things.index(had), colour) for had, colour in table[2][choice]] for choice in counts]
    return (len(part), table[1], rows), counts


class Parts(unittest.TestCase):
    def test_one(self):
        self.assertEqual(parts((1, 0, [[(0, 0)]])), [[0]])
        self.assertEqual(parts((3, 0, [[(0, 0), (1, 0), (2, 0)]])), [[0, 1, 2]])
        self.assertEqual(parts(MANY), [[0, 1, 2]])

    def test_several(self):
        self.assertEqual(parts(TABLE), [[0, 3], [1, 4], [2]])
        self.assertEqual(parts((4, 0, [[(2, 0), (3, 0)], [(0, 0), (1, 0)]])), [[0, 1], [2, 3]])

    def test_a_main_thing_that_no_choice_has(self):
        self.assertEqual(parts((3, 0, [[(0, 0), (2, 0)]])), [[0, 2], [1]])
        self.assertEqual(parts((3, 0, [[(1, 0), (2, 0)]])), [[0], [1, 2]])

    def test_no_choices(self):
        self.assertEqual(parts((1, 0, [])), [[0]])
        self.assertEqual(parts((3, 2, [])), [[0], [1], [2]])

    def test_things_that_are_together_with_one_thing(self):
        rows = [[(thing, 0), (thing + 1, 0)] for thing in range(9)]
        self.assertEqual(parts((10, 0, rows)), [list(range(10))])
        self.assertEqual(parts((10, 0, rows[::-1])), [list(range(10))])
        self.assertEqual(parts((10, 0, rows[:4] + rows[5:])), [[0, 1, 2, 3, 4], [5, 6, 7, 8, 9]])

    def test_a_choice_that_leads_parts_together_behind_others(self):
        rows = [[(0, 0), (1, 0)], [(2, 0), (3, 0)], [(4, 0), (5, 0)], [(1, 0), (4, 0)]]
        self.assertEqual(parts((6, 0, rows)), [[0, 1, 4, 5], [2, 3]])
        self.assertEqual(parts((6, 0, rows + [[(3, 0), (5, 0)]])), [[0, 1, 2, 3, 4, 5]])

    def test_led_together_by_a_thing_beside_alone(self):
        """Whether the choices clash by it or not."""
        for one, other in ((0, 0), (1, 1), (1, 2), (0, 9)):
            rows = [[(0, 0), (3, one)], [(2, 0), (3, other)]]
            self.assertEqual(parts((3, 1, rows)), [[0, 2], [1]])

    def test_led_together_by_each_thing_beside(self):
        for thing in range(2, 8):
            self.assertEqual(parts((2, 6, [[(0, 0), (thing, 1)], [(1, 0), (thing, 2)]])), [[0, 1]])

    def test_led_together_over_things_beside(self):
        rows = [[(0, 0), (3, 1)], [(1, 0), (4, 1)], [(2, 0), (3, 1), (4, 1)]]
        self.assertEqual(parts((3, 2, rows)), [[0, 1, 2]])
        self.assertEqual(parts((3, 2, rows[:2])), [[0], [1], [2]])

    def test_choices_alike_and_things_twice(self):
        self.assertEqual(parts(own_things([8, 8])), [[0], [1]])

    def test_by_their_least_things(self):
        """Not by how long they are, nor by their greatest things."""
        rows = [[(2, 0), (3, 0)], [(0, 0), (9, 0)], [(1, 0), (5, 0), (7, 0)]]
        self.assertEqual(parts((10, 0, rows)), [[0, 9], [1, 5, 7], [2, 3], [4], [6], [8]])

    def test_tables_by_chance(self):
        several = 0
        for table in some_tables(200, "parts", 8, 4, 7) + great_tables(10, "parts"):
            self.assertEqual(parts(table), parts_of(table), table)
            several += len(parts(table)) > 1
        self.assertGreater(several, 50)


class PartTables(unittest.TestCase):
    def test_several(self):
        self.assertEqual([part_table(TABLE, number) for number in range(3)], PART_TABLES)

    def test_one(self):
        self.assertEqual(part_table(MANY, 0), (MANY, [0, 1, 2, 3, 4, 5, 6]))

    def test_no_choices(self):
        self.assertEqual(part_table((3, 2, []), 2), ((1, 2, []), []))

    def test_a_pair_of_a_table_and_a_list(self):
        made, counts = told = part_table(TABLE, 1)
        self.assertEqual((told.__class__, made.__class__, counts.__class__), (tuple, tuple, list))
        self.assertEqual([row.__class__ for row in made[2]], [list] * 3)

    def test_each_list_is_one_of_its_own(self):
        row = [(0, 0)]
        table = (2, 0, [row, row, [(1, 0)], row])
        made, counts = part_table(table, 0)
        self.assertEqual((made, counts), ((1, 0, [row, row, row]), [0, 1, 3]))
        made[2][0].append((1, 0))
        self.assertEqual((made[2][1:], row), ([[(0, 0)], [(0, 0)]], [(0, 0)]))

    def test_tables_by_chance(self):
        for table in some_tables(150, "part tables", 8, 4, 7) + great_tables(10, "part tables"):
            self.assertEqual([part_table(table, number) for number in range(len(parts(table)))],
                             [table_of(table, part) for part in parts_of(table)], table)

    def test_covers_of_all_are_those_of_the_parts(self):
        """As many, multiplied; and one of each part makes one of all."""
        several = 0
        ones, others = some_tables(200, "multiplied", 2, 2, 6), some_tables(200, "and with", 3, 2, 6)
        mixed = [rearranged(table, random.Random(at).sample(range(len(table[2])), len(table[2])))
                 for at, table in enumerate(map(put_beside, ones, others))]
        for table in mixed + some_tables(100, "as they come", 4, 2, 9):
            told = [part_table(table, number) for number in range(len(parts(table)))]
            self.assertEqual(how_many(table), math.prod(how_many(made) for made, counts in told))
            whole = [[[counts[choice] for choice in cover] for cover in all_covers(made)] for made, counts in told]
            put_together = [sorted(itertools.chain(*some)) for some in itertools.product(*whole)]
            self.assertEqual(sorted(put_together), covers_of(table))
            several += len(told) > 1 and how_many(table) > 1
        self.assertGreater(several, 10)

    def test_no_count_of_a_part(self):
        for table, many in ((TABLE, 3), (MANY, 1), ((1, 0, []), 1)):
            for number in (*OTHER_KINDS, many, many + 1, -1, -many, [0], (0,), "0", b"0", 10 ** 30):
                with self.subTest(number=number), self.assertRaises(BadNumber):
                    part_table(table, number)

    def test_the_table_first(self):
        for number in (None, True, -1, 99, 0):
            with self.assertRaises(BadTable):
                part_table(WRONG, number)


class Uses(unittest.TestCase):
    def right(self, table):
        covers = covers_of(table)
        told = uses(table)
        self.assertEqual(told, [sum(choice in cover for cover in covers) for choice in range(len(table[2]))])
        self.assertEqual(idle(table), [choice for choice in range(len(table[2])) if told[choice] == 0])
        for thing in range(table[0]):
            self.assertEqual(sum(many for many, row in zip(told, table[2]) if (thing, 0) in row), len(covers))
        if covers:
            self.assertEqual(forced(table), sorted(set.intersection(*map(set, covers))))
        else:
            self.assertEqual(idle(table), list(range(len(table[2]))))
            with self.assertRaises(NoCover):
                forced(table)

    def test_none(self):
        self.assertEqual([uses(table) for table in NONE], [[], [0], [0, 0]])
        self.assertEqual([idle(table) for table in NONE], [[], [0], [0, 1]])
        for table in NONE:
            self.right(table)

    def test_one(self):
        self.assertEqual((uses(ONE), idle(ONE), forced(ONE)), ([0, 1, 1], [0], [1, 2]))
        self.right(ONE)

    def test_many(self):
        self.assertEqual((uses(MANY), idle(MANY), forced(MANY)), ([2, 1, 2, 1, 1, 0, 1], [5], []))
        self.right(MANY)

    def test_in_all_of_several(self):
        table = (2, 0, [[(0, 0), (1, 0)], [(1, 0)], [(0, 0)], [(0, 0)]])
        self.assertEqual((uses(table), idle(table), forced(table)), ([1, 2, 1, 1], [], []))
        self.assertEqual((uses(own_things([1, 3, 1])), forced(own_things([1, 3, 1]))), ([3, 1, 1, 1, 3], [0, 4]))
        self.right(table)
        self.right(own_things([1, 3, 1]))

    def test_all_in_none_but_one(self):
        table = (2, 0, [[(0, 0), (1, 0)], [(0, 0)], [(0, 0)]])
        self.assertEqual((uses(table), idle(table), forced(table)), ([1, 0, 0], [1, 2], [0]))

    def test_as_many_as_there_can_be(self):
        self.assertEqual(uses(own_things([3, 3, 3, 3, 2, 2])), [108] * 12 + [162] * 4)

    def test_tables_by_chance(self):
        for table in some_tables(200, "uses", 4, 2, 9) + great_tables(10, "uses"):
            self.right(table)

    def test_no_cover(self):
        for table in NONE:
            with self.assertRaises(NoCover):
                forced(table)

    def test_the_table_first(self):
        for table in (WRONG, (0, 0, []), (1, 0, ()), None):
            for ask in (forced, uses, idle, parts):
                with self.subTest(ask.__name__), self.assertRaises(BadTable):
                    ask(table)


if __name__ == "__main__":
    unittest.main()
