import copy
import unittest

from tests.helper import barred_tables, covers_of, deepest, ends, great_tables, holds, lists_in, own_things, some_tables
from undocover.answers import Barred, Cover
from undocover.finding import sought

# Its covers are [0, 1], [0, 4], [2, 3] and [2, 6].
TABLE = (3, 1, [
    [(0, 0), (3, 1)],
    [(1, 0), (2, 0), (3, 1)],
    [(0, 0), (1, 0)],
    [(2, 0), (3, 0)],
    [(1, 0), (2, 0)],
    [(1, 0), (3, 2)],
    [(2, 0), (3, 1)],
])
# Things 0 to 2 by pairs: any two choices clash.
THREE = (3, 0, [[(0, 0), (1, 0)], [(1, 0), (2, 0)], [(0, 0), (2, 0)]])

# Things 6 and 7 are beside: what has thing 4 and what has thing 5 go by the colours of thing 6, but not of thing 7.
COLOURED = (6, 2, [
    *[[(thing, 0), (6, colour)] for thing in range(4) for colour in (1, 2)],
    *[[(4, 0), (6, colour), (7, colour)] for colour in (1, 2, 3, 4)],
    *[[(5, 0), (6, colour), (7, 9 - colour)] for colour in (1, 2, 3, 4)],
])


class Found(unittest.TestCase):
    def covered(self, table, choices):
        answer = sought(table)
        self.assertIs(answer.__class__, Cover)
        self.assertEqual(vars(answer), {"choices": choices})
        self.assertIs(answer.shows(table), True)

    def test_one_cover(self):
        self.covered((1, 0, [[(0, 0)]]), [0])
        self.covered((2, 0, [[(1, 0)], [(0, 0)]]), [0, 1])
        self.covered((3, 0, [[(0, 0), (1, 0)], [(1, 0), (2, 0)], [(0, 0)]]), [1, 2])

    def test_the_first_of_several(self):
        self.assertEqual(covers_of(TABLE), [[0, 1], [0, 4], [2, 3], [2, 6]])
        self.covered(TABLE, [0, 1])
        self.covered((3, 1, TABLE[2][1:]), [1, 2])

    def test_first_is_by_the_order_of_lists_not_by_how_long_they_are(self):
        single, halves = [(0, 0), (1, 0), (2, 0)], [[(0, 0), (1, 0)], [(2, 0)]]
        self.covered((3, 0, [halves[0], single, halves[1]]), [0, 2])
        self.covered((3, 0, [single, *halves]), [0])
        self.covered((3, 0, [halves[0], halves[1], single]), [0, 1])

    def test_first_is_by_the_choices_not_by_the_things(self):
        """Thing 0's first choice, 1, comes behind a choice of thing 2."""
        self.covered((3, 0, [[(2, 0)], [(0, 0), (1, 0), (2, 0)], [(0, 0), (1, 0)]]), [0, 2])
        self.covered((2, 0, [[(1, 0)], [(0, 0), (1, 0)], [(0, 0)], [(0, 0)]]), [0, 2])
        self.covered((3, 0, [[(2, 0)], [(1, 0)], [(0, 0), (1, 0)], [(0, 0)], [(1, 0)]]), [0, 1, 3])

    def test_choices_alike(self):
        self.covered((1, 0, [[(0, 0)] for place in range(16)]), [0])
        self.covered((2, 0, [[(1, 0)], [(1, 0)], [(0, 0)], [(0, 0)]]), [0, 2])

    def test_things_beside_whose_colours_decide(self):
        for colours, choices in (((1, 1, 2), [0, 1]), ((1, 2, 1), [0, 2]), ((9, 9, 9), [0, 1]), ((2, 0, 2), [0, 2])):
            one, two, three = colours
            self.covered((2, 1, [[(0, 0), (2, one)], [(1, 0), (2, two)], [(1, 0), (2, three)]]), choices)

    def test_things_beside_need_not_be_covered(self):
        self.covered((1, 6, [[(0, 0)]]), [0])
        self.covered((1, 6, [[(0, 0), (6, 0)]]), [0])

    def test_sixteen_choices(self):
        self.covered(own_things([3, 3, 3, 3, 2, 2]), [0, 3, 6, 9, 12, 14])
        self.covered((10, 0, [[(0, 0)]] * 7 + [[(thing, 0)] for thing in range(1, 10)]), [0, *range(7, 16)])
        self.covered((10, 6, [[(0, 0)]] * 15 + [[(thing, 0) for thing in range(10)]]), [15])

    def test_tables_by_chance(self):
        seen = 0
        for table in some_tables(400, "finding") + great_tables(40, "finding"):
            covers = covers_of(table)
            if covers:
                seen += 1
                self.covered(table, covers[0])
        self.assertGreater(seen, 50)


class NotFound(unittest.TestCase):
    def barred(self, table):
        answer = sought(table)
        self.assertIs(answer.__class__, Barred)
        self.assertEqual(list(vars(answer)), ["tree"])
        self.assertIs(answer.shows(table), True)
        self.assertTrue(holds(table, answer.tree), (table, answer.tree))
        self.assertLessEqual(ends(answer.tree), 324)
        self.assertLessEqual(deepest(answer.tree), table[0])
        return answer.tree

    def test_no_choices(self):
        for main in (1, 2, 10):
            self.barred((main, 0, []))
        self.assertEqual(self.barred((1, 6, [])), ("stuck", 0))

    def test_a_main_thing_that_no_choice_has(self):
        self.barred((2, 0, [[(0, 0)]]))
        self.barred((2, 1, [[(1, 0), (2, 1)]]))
        self.barred((10, 0, [[(thing, 0)] for thing in range(9)]))
        self.barred(own_things([3, 3, 3, 3, 2, 2], 1))

    def test_splits(self):
        self.assertIn(self.barred(THREE), [
            ("split", 0, [(0, ("stuck", 2)), (2, ("stuck", 1))]),
            ("split", 1, [(0, ("stuck", 2)), (1, ("stuck", 0))]),
            ("split", 2, [(1, ("stuck", 0)), (2, ("stuck", 1))]),
        ])

    def test_things_beside_whose_colours_decide(self):
        for colours in ((1, 2), (0, 0), (0, 1), (9, 0)):
            table = (2, 1, [[(0, 0), (2, colours[0])], [(1, 0), (2, colours[1])]])
            self.assertIn(self.barred(table), [("split", 0, [(0, ("stuck", 1))]), ("split", 1, [(1, ("stuck", 0))])])

    def test_sixteen_choices(self):
        self.barred(COLOURED)
        self.barred((9, 0, [[(thing, 0), (thing + 1, 0)] for thing in range(8)] * 2))
        self.barred((9, 0, [[(thing, 0), (thing + 1, 0)] for thing in range(8)] + [[(0, 0), (8, 0)]] * 8))

    def test_tables_by_chance(self):
        tables = barred_tables(200, "finding")
        tables += [table for table in great_tables(60, "not found") if not covers_of(table)]
        self.assertGreater(len(tables), 210)
        for table in tables:
            self.barred(table)


class Telling(unittest.TestCase):
    def test_just_one_of_the_two(self):
        for table in some_tables(200, "telling"):
            answer = sought(table)
            self.assertIs(answer.__class__, Cover if covers_of(table) else Barred)

    def test_asked_twice_the_same(self):
        for table in some_tables(100, "twice") + great_tables(10, "twice"):
            one, other = sought(table), sought(table)
            self.assertIs(one.__class__, other.__class__)
            self.assertEqual(vars(one), vars(other))

    def test_what_is_told_is_new(self):
        for table in (TABLE, THREE):
            first = sought(table)
            kept = copy.deepcopy(vars(first))
            for some in lists_in(tuple(vars(first).values())):
                some.clear()
            self.assertEqual(vars(sought(table)), kept)

    def test_each_list_of_a_tree_is_one_of_its_own(self):
        some = lists_in(sought(COLOURED).tree)
        self.assertGreater(len(some), 1)
        self.assertEqual(len({id(one) for one in some}), len(some))

    def test_the_table_stays_and_is_not_kept(self):
        for table in (TABLE, THREE):
            handed = copy.deepcopy(table)
            answer = sought(handed)
            told = copy.deepcopy(vars(answer))
            self.assertEqual(handed, table)
            for some in lists_in(handed):
                some.clear()
            self.assertEqual(vars(answer), told)
            self.assertIs(answer.shows(table), True)

    def test_a_table_changed_in_between(self):
        table = copy.deepcopy(TABLE)
        sought(table)
        table[2].pop(0)
        self.assertEqual(sought(table).choices, [1, 2])
        table[2].clear()
        self.assertIs(sought(table).__class__, Barred)

    def test_by_name(self):
        self.assertEqual(sought(table=TABLE).choices, [0, 1])


if __name__ == "__main__":
    unittest.main()
