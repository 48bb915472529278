import copy
import unittest

from tests.helper import OTHER_KINDS, covers_of, great_tables, own_things, some_tables
from undocover.errors import BadChoice, BadNumber, BadTable, NoCover
from undocover.finding import sought
from undocover.ranks import all_covers, by_number, how_many, next_one, number_of
from undocover.room import Room

# Its covers are these.
TABLE = (3, 1, [
    [(0, 0), (3, 1)],
    [(1, 0), (2, 0), (3, 1)],
    [(0, 0), (1, 0)],
    [(2, 0), (3, 0)],
    [(1, 0), (2, 0)],
    [(1, 0), (3, 2)],
    [(2, 0), (3, 1)],
])
COVERS = [[0, 1], [0, 4], [2, 3], [2, 6]]
NONE = [(1, 0, []), (2, 0, [[(0, 0)]]), (2, 1, [[(0, 0), (2, 1)], [(1, 0), (2, 2)]])]
ONE = (3, 0, [[(0, 0), (1, 0)], [(1, 0), (2, 0)], [(0, 0)]])


class Covers(unittest.TestCase):
    def right(self, table, covers):
        self.assertEqual(all_covers(table), covers)
        self.assertEqual(how_many(table), len(covers))
        self.assertEqual([by_number(table, number) for number in range(len(covers))], covers)
        self.assertEqual([number_of(table, cover) for cover in covers], list(range(len(covers))))
        self.assertEqual([next_one(table, cover) for cover in covers], [*covers, None][1:])
        for number in (-1, len(covers)):
            with self.assertRaises(BadNumber):
                by_number(table, number)

    def test_none(self):
        for table in NONE:
            self.right(table, [])

    def test_one(self):
        self.right(ONE, [[1, 2]])
        self.right((1, 0, [[(0, 0)]]), [[0]])

    def test_many(self):
        self.right(TABLE, COVERS)

    def test_choices_alike(self):
        self.right((1, 0, [[(0, 0)] for place in range(16)]), [[choice] for choice in range(16)])
        self.right((2, 0, [[(1, 0)], [(0, 0)], [(1, 0)], [(0, 0)]]), [[0, 1], [0, 3], [1, 2], [2, 3]])

    def test_the_order_of_lists(self):
        """Long ones and short ones, and one that begins with a later thing."""
        rows = [[(2, 0)], [(0, 0), (1, 0), (2, 0)], [(0, 0)], [(1, 0)], [(0, 0), (1, 0)], [(1, 0), (2, 0)]]
        self.right((3, 0, rows), [[0, 2, 3], [0, 4], [1], [2, 5]])
        rows = [[(0, 0)], *[[(1, 0)] for place in range(11)]]
        self.right((2, 0, rows), [[0, choice] for choice in range(1, 12)])

    def test_things_beside(self):
        rows = [[(0, 0), (2, one)] for one in (0, 1, 2)] + [[(1, 0), (2, other)] for other in (0, 1, 2)]
        self.right((2, 1, rows), [[1, 4], [2, 5]])

    def test_as_many_as_there_can_be(self):
        table = own_things([3, 3, 3, 3, 2, 2])
        self.assertEqual(len(covers_of(table)), 324)
        self.right(table, covers_of(table))

    def test_tables_by_chance(self):
        for table in some_tables(150, "ranks") + great_tables(10, "ranks"):
            self.right(table, covers_of(table))

    def test_the_kinds_of_what_is_told(self):
        self.assertIs(all_covers(TABLE).__class__, list)
        self.assertEqual({cover.__class__ for cover in all_covers(TABLE)}, {list})
        self.assertIs(by_number(TABLE, 1).__class__, list)
        self.assertIs(next_one(TABLE, COVERS[1]).__class__, list)
        self.assertIs(next_one(TABLE, COVERS[3]), None)
        self.assertEqual({how_many(TABLE).__class__, number_of(TABLE, COVERS[1]).__class__}, {int})

    def test_they_agree_with_what_is_sought_and_with_rooms(self):
        for table in some_tables(60, "agree"):
            covers = all_covers(table)
            self.assertEqual(Room(table).how_many(), len(covers))
            if covers:
                self.assertEqual(sought(table).choices, covers[0])
            else:
                self.assertIs(sought(table).shows(table), True)

    def test_by_names(self):
        self.assertEqual((all_covers(table=TABLE), how_many(table=TABLE)), (COVERS, 4))
        self.assertEqual(by_number(table=TABLE, number=2), [2, 3])
        self.assertEqual(number_of(table=TABLE, cover=[2, 3]), 2)
        self.assertEqual(next_one(table=TABLE, cover=[2, 3]), [2, 6])


class Lists(unittest.TestCase):
    def test_told_ones_may_be_changed(self):
        covers = all_covers(TABLE)
        for cover in covers:
            cover.append(9)
        covers.pop()
        self.assertEqual(all_covers(TABLE), COVERS)
        by_number(TABLE, 0).clear()
        next_one(TABLE, [0, 1]).reverse()
        self.assertEqual((all_covers(TABLE), by_number(TABLE, 0), next_one(TABLE, [0, 1])), (COVERS, [0, 1], [0, 4]))

    def test_each_list_is_one_of_its_own(self):
        covers = all_covers(TABLE)
        self.assertEqual(len({id(cover) for cover in covers}), 4)

    def test_what_is_handed_in_stays(self):
        table, cover = copy.deepcopy(TABLE), [0, 4]
        all_covers(table)
        how_many(table)
        by_number(table, 1)
        self.assertEqual((number_of(table, cover), next_one(table, cover)), (1, [2, 3]))
        self.assertEqual((table, cover), (TABLE, [0, 4]))

    def test_what_is_told_is_not_what_is_handed_in(self):
        cover = [0, 1]
        next_one(TABLE, cover).append(9)
        self.assertEqual(cover, [0, 1])

    def test_the_table_is_not_kept(self):
        table = copy.deepcopy(TABLE)
        self.assertEqual(how_many(table), 4)
        table[2].pop()
        self.assertEqual((how_many(table), next_one(table, [2, 3])), (3, None))
        table[2][0].pop()
        self.assertEqual(all_covers(table), covers_of(table))


class Refused(unittest.TestCase):
    def test_no_number_of_a_cover(self):
        for table in (TABLE, ONE, *NONE):
            for number in (*OTHER_KINDS, how_many(table), how_many(table) + 1, -1, -4, [1], (1,), "1", b"1"):
                with self.subTest(number=number), self.assertRaises(BadNumber):
                    by_number(table, number)

    def refused(self, cover, error, table=TABLE):
        for ask in (number_of, next_one):
            with self.subTest(ask.__name__, cover=cover), self.assertRaises(error):
                ask(table, cover)

    def test_no_list_of_counts(self):
        for cover in (*OTHER_KINDS, (0, 1), {0: 1, 1: 4}, "01", b"01", 0, range(2)):
            if cover not in ([], [0]):
                self.refused(cover, BadChoice)

    def test_other_kinds_within_the_list(self):
        for other in OTHER_KINDS:
            for cover in ([other], [0, other], [other, 1], [0, 1, other], [other, 0, 1]):
                self.refused(cover, BadChoice)
        self.refused([False, True], BadChoice)
        self.refused([0, True], BadChoice)

    def test_counts_beyond_not_rising_or_twice(self):
        for cover in ([7], [0, 7], [-7, 1], [-1], [0, 1, 10 ** 30], [1, 0], [4, 0], [0, 0], [0, 1, 1], [0, 0, 1]):
            self.refused(cover, BadChoice)
        self.refused([0], BadChoice, (1, 0, []))

    def test_no_cover(self):
        """Bare things, choices that clash, and both."""
        for cover in ([], [0], [1], [0, 6], [0, 1, 4], [0, 2, 3], [1, 2], [0, 5], [0, 5, 6], [0, 1, 2, 3, 4, 5, 6]):
            self.refused(cover, NoCover)
        for table in NONE:
            self.refused([], NoCover, table)
            self.refused(list(range(len(table[2]))), NoCover, table)

    def test_things_beside_that_clash(self):
        rows = [[(0, 0), (2, one)] for one in (0, 1, 2)] + [[(1, 0), (2, other)] for other in (0, 1, 2)]
        for cover in ([0, 3], [0, 4], [1, 3], [1, 5], [2, 4]):
            self.refused(cover, NoCover, (2, 1, rows))

    def test_each_in_its_turn(self):
        wrong = (2, 0, [[(1, 0), (0, 0)]])
        for number in (None, 5, -1, True):
            with self.assertRaises(BadTable):
                by_number(wrong, number)
        for cover in (None, [1, 0], [9], [0], []):
            self.refused(cover, BadTable, wrong)
        self.refused([0, 0], BadChoice)
        self.refused([1, 2, 9], BadChoice)
        self.refused([5, 1], BadChoice)


if __name__ == "__main__":
    unittest.main()
