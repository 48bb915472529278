import copy
import itertools
import unittest

from tests.helper import bare_by, have_clash, some_tables
from undocover.tables import bare, clash, going

# Choices that have things 3 and 4, both beside, in colours that clash and that do not.
TABLE = (3, 2, [
    [(0, 0), (3, 1)],
    [(1, 0), (3, 1)],
    [(1, 0), (3, 2)],
    [(2, 0), (3, 0)],
    [(1, 0), (3, 0), (4, 9)],
    [(0, 0), (2, 0)],
    [(0, 0), (3, 1)],
    [(2, 0), (4, 9)],
])


class Clash(unittest.TestCase):
    def told(self, one, other):
        first, second = clash(TABLE, one, other), clash(TABLE, other, one)
        self.assertIs(first, second)
        return first

    def test_a_main_thing_in_common(self):
        self.assertIs(self.told(0, 5), True)
        self.assertIs(self.told(1, 2), True)

    def test_a_main_thing_in_common_though_colours_beside_go(self):
        self.assertIs(self.told(0, 6), True)

    def test_nothing_in_common(self):
        self.assertIs(self.told(1, 5), False)
        self.assertIs(self.told(1, 7), False)

    def test_a_thing_beside_with_alike_colours_above_0(self):
        self.assertIs(self.told(0, 1), False)
        self.assertIs(self.told(4, 7), False)

    def test_a_thing_beside_with_unlike_colours(self):
        self.assertIs(self.told(0, 2), True)

    def test_a_thing_beside_with_colour_0_in_one(self):
        self.assertIs(self.told(0, 3), True)

    def test_a_thing_beside_with_colour_0_in_both(self):
        self.assertIs(self.told(3, 4), True)

    def test_one_thing_beside_goes_and_another_clashes(self):
        table = (2, 2, [[(0, 0), (2, 1), (3, 1)], [(1, 0), (2, 1), (3, 2)], [(1, 0), (2, 2), (3, 1)]])
        self.assertIs(clash(table, 0, 1), True)
        self.assertIs(clash(table, 0, 2), True)

    def test_a_choice_clashes_with_itself(self):
        for choice in range(len(TABLE[2])):
            self.assertIs(clash(TABLE, choice, choice), True)

    def test_alike_choices_at_unlike_places_clash(self):
        self.assertEqual(TABLE[2][0], TABLE[2][6])
        self.assertIs(self.told(0, 6), True)

    def test_the_last_main_thing_counts_as_main(self):
        self.assertIs(clash((2, 1, [[(0, 0), (1, 0)], [(1, 0)]]), 0, 1), True)

    def test_tables_by_chance(self):
        for table in some_tables(300, "clash"):
            for one, other in itertools.product(range(len(table[2])), repeat=2):
                self.assertIs(clash(table, one, other), have_clash(table, one, other), (table, one, other))


class Going(unittest.TestCase):
    def test_no_choices(self):
        self.assertIs(going(TABLE, []), True)
        self.assertIs(going((1, 0, []), []), True)

    def test_one_goes_with_itself(self):
        for choice in range(len(TABLE[2])):
            self.assertIs(going(TABLE, [choice]), True)

    def test_some(self):
        self.assertIs(going(TABLE, [0, 1]), True)
        self.assertIs(going(TABLE, [0, 1, 7]), True)
        self.assertIs(going(TABLE, [0, 2, 7]), False)
        self.assertIs(going(TABLE, [0, 1, 3]), False)
        self.assertIs(going(TABLE, [1, 5, 7]), False)

    def test_all(self):
        self.assertIs(going(TABLE, list(range(8))), False)
        self.assertIs(going((2, 1, [[(0, 0), (2, 3)], [(1, 0), (2, 3)]]), [0, 1]), True)

    def test_alike_choices(self):
        self.assertIs(going(TABLE, [0, 6]), False)

    def test_tables_by_chance(self):
        for table in some_tables(60, "going"):
            counts = range(len(table[2]))
            for size in range(5):
                for some in itertools.combinations(counts, size):
                    right = not any(have_clash(table, *pair) for pair in itertools.combinations(some, 2))
                    self.assertIs(going(table, list(some)), right, (table, some))


class Bare(unittest.TestCase):
    def test_no_choices(self):
        self.assertEqual(bare(TABLE, []), [0, 1, 2])
        self.assertEqual(bare((10, 6, []), []), list(range(10)))

    def test_one(self):
        self.assertEqual(bare(TABLE, [0]), [1, 2])
        self.assertEqual(bare(TABLE, [5]), [1])

    def test_some(self):
        self.assertEqual(bare(TABLE, [1, 3]), [0])
        self.assertEqual(bare(TABLE, [1, 5]), [])

    def test_choices_that_clash_are_asked_too(self):
        self.assertEqual(bare(TABLE, [0, 5, 6]), [1])

    def test_all(self):
        self.assertEqual(bare(TABLE, list(range(8))), [])
        self.assertEqual(bare((3, 0, [[(1, 0)]]), [0]), [0, 2])

    def test_the_told_list_is_the_askers_own(self):
        told = bare(TABLE, [0])
        told.append(9)
        told[0] = "changed"
        self.assertEqual(bare(TABLE, [0]), [1, 2])

    def test_tables_by_chance(self):
        for table in some_tables(60, "bare"):
            for size in range(4):
                for some in itertools.combinations(range(len(table[2])), size):
                    self.assertEqual(bare(table, list(some)), bare_by(table, some), (table, some))


class Unchanged(unittest.TestCase):
    def test_what_is_handed_in_stays(self):
        table, choices = copy.deepcopy(TABLE), [0, 1, 7]
        clash(table, 0, 1)
        going(table, choices)
        bare(table, choices)
        self.assertEqual(table, TABLE)
        self.assertEqual(choices, [0, 1, 7])

    def test_nothing_handed_in_is_kept(self):
        table, choices = copy.deepcopy(TABLE), [0, 1]
        self.assertEqual([clash(table, 0, 1), going(table, choices), bare(table, choices)], [False, True, [2]])
        table[2][1] = [(0, 0), (2, 0)]
        self.assertEqual([clash(table, 0, 1), going(table, choices), bare(table, choices)], [True, False, [1]])
        choices.remove(1)
        self.assertEqual([going(table, choices), bare(table, choices)], [True, [1, 2]])


if __name__ == "__main__":
    unittest.main()
