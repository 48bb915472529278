import itertools
import random
import unittest

from tests.helper import OTHER_KINDS, covers_of, great_tables, some_row, some_tables
from undocover.errors import BadChoice, BadOrder, BadTable, TooGreat
from undocover.joining import put_beside, rearranged, renamed, without
from undocover.tables import bare

ONE = (2, 2, [[(0, 0), (2, 1)], [(0, 0), (1, 0), (3, 5)]])
OTHER = (3, 1, [[(1, 0)], [(0, 0), (2, 0), (3, 0)], [(2, 0), (3, 9)]])
WRONG = (2, 0, [[(1, 0), (0, 0)]])


def orders_of(many, chance):
    """All orders of so few, or the given one, the one turned round, and some by chance."""
    if many < 5:
        return [list(order) for order in itertools.permutations(range(many))]
    some = [chance.sample(range(many), many) for turn in range(6)]
    return [list(range(many)), list(range(many))[::-1], *some]


def wrong_orders(many):
    """Lists and other kinds that are no orders of so many, at least two."""
    right = list(range(many))
    wrong = [right[1:], right[:-1], [], [*right, many], [*right, 0], [0, *right], [right[-1], *right[:-1], 0]]
    wrong += [[0] * many, [*right[:-1], 0], [right[-1], *right[1:]], [*right[:-1], many], [-1, *right[1:]]]
    wrong += [[number + 1 for number in right], [number - 1 for number in right], [number - many for number in right]]
    wrong += [[False, True, *right[2:]], [False, *right[1:]], [0, True, *right[2:]]]
    wrong += [tuple(right), "".join(map(str, right)), bytes(right), dict.fromkeys(right), range(many), iter(right)]
    wrong += [set(right), right[:1] * 100, [right], [[number] for number in right], list(map(str, right))]
    for other in OTHER_KINDS:
        wrong += [other, [other, *right[1:]], [*right[:-1], other], [*right, other]]
    return wrong


class Beside(unittest.TestCase):
    def test_two(self):
        self.assertEqual(put_beside(ONE, OTHER), (5, 3, [
            [(0, 0), (5, 1)], [(0, 0), (1, 0), (6, 5)],
            [(3, 0)], [(2, 0), (4, 0), (7, 0)], [(4, 0), (7, 9)],
        ]))
        self.assertEqual(put_beside(OTHER, ONE), (5, 3, [
            [(1, 0)], [(0, 0), (2, 0), (5, 0)], [(2, 0), (5, 9)],
            [(3, 0), (6, 1)], [(3, 0), (4, 0), (7, 5)],
        ]))

    def test_one_beside_itself(self):
        self.assertEqual(put_beside(ONE, ONE), (4, 4, [
            [(0, 0), (4, 1)], [(0, 0), (1, 0), (5, 5)], [(2, 0), (6, 1)], [(2, 0), (3, 0), (7, 5)],
        ]))

    def test_without_choices(self):
        self.assertEqual(put_beside((1, 0, []), (2, 3, [])), (3, 3, []))
        self.assertEqual(put_beside((1, 1, []), ONE), (3, 3, [[(1, 0), (4, 1)], [(1, 0), (2, 0), (5, 5)]]))
        self.assertEqual(put_beside(ONE, (1, 1, [])), (3, 3, [[(0, 0), (3, 1)], [(0, 0), (1, 0), (4, 5)]]))

    def test_all_colours_are_kept(self):
        rows = [[(0, 0), (1, colour)] for colour in range(8)]
        made = put_beside((1, 1, rows), (1, 1, rows))
        self.assertEqual([row[1] for row in made[2]], [(2, colour) for colour in range(8)]
                         + [(3, colour) for colour in range(8)])

    def test_the_covers_are_those_of_both(self):
        for one, other in zip(some_tables(120, "beside one", 3, 2, 5), some_tables(120, "beside other", 4, 3, 5)):
            moved = [[choice + len(one[2]) for choice in cover] for cover in covers_of(other)]
            both = [cover + its for cover, its in itertools.product(covers_of(one), moved)]
            self.assertEqual(covers_of(put_beside(one, other)), both)

    def test_sizes_just_within(self):
        row = [(0, 0)]
        for one, other in (((9, 0, []), (1, 0, [])), ((1, 0, []), (9, 0, [])), ((5, 0, [row]), (5, 0, [row])),
                           ((1, 6, []), (1, 0, [])), ((1, 0, []), (1, 6, [])), ((1, 3, []), (1, 3, [])),
                           ((1, 0, [row] * 16), (1, 0, [])), ((1, 0, []), (1, 0, [row] * 16)),
                           ((1, 0, [row] * 8), (1, 0, [row] * 8)), ((5, 3, [row] * 9), (5, 3, [row] * 7))):
            made = put_beside(one, other)
            self.assertEqual(made[:2], (one[0] + other[0], one[1] + other[1]))
            self.assertEqual(made[2], [row] * len(one[2]) + [[(one[0], 0)]] * len(other[2]))
            self.assertEqual(bare(made, []), list(range(made[0])))

    def test_sizes_just_beyond(self):
        row = [(0, 0)]
        for one, other in (((10, 0, []), (1, 0, [])), ((1, 0, []), (10, 0, [])), ((5, 0, [row]), (6, 0, [row])),
                           ((1, 6, []), (1, 1, [])), ((1, 1, []), (1, 6, [])), ((1, 3, []), (1, 4, [])),
                           ((1, 0, [row] * 16), (1, 0, [row])), ((1, 0, [row]), (1, 0, [row] * 16)),
                           ((1, 0, [row] * 8), (1, 0, [row] * 9)), ((10, 6, [row] * 16), (10, 6, [row] * 16))):
            with self.subTest(one=one, other=other), self.assertRaises(TooGreat):
                put_beside(one, other)

    def test_what_is_no_table_goes_ahead_of_what_is_too_great(self):
        great = (10, 6, [[(0, 0)]] * 16)
        for wrong in (WRONG, None, (10, 6, ()), (11, 0, []), (10, 7, []), (10, 0, [[(0, 0)]] * 17), list(great)):
            for one, other in ((wrong, great), (great, wrong), (wrong, wrong), (wrong, ONE), (ONE, wrong)):
                with self.subTest(one=one, other=other), self.assertRaises(BadTable):
                    put_beside(one, other)


class Without(unittest.TestCase):
    def test_the_first_the_last_and_one_in_the_middle(self):
        rows = OTHER[2]
        self.assertEqual(without(OTHER, 0), (3, 1, [rows[1], rows[2]]))
        self.assertEqual(without(OTHER, 1), (3, 1, [rows[0], rows[2]]))
        self.assertEqual(without(OTHER, 2), (3, 1, [rows[0], rows[1]]))

    def test_the_only_one(self):
        self.assertEqual(without((2, 1, [[(0, 0), (2, 4)]]), 0), (2, 1, []))

    def test_one_of_alike_ones(self):
        table = (2, 0, [[(0, 0)], [(1, 0)], [(0, 0)]])
        self.assertEqual(without(table, 2), (2, 0, [[(0, 0)], [(1, 0)]]))
        self.assertEqual(without(table, 0), (2, 0, [[(1, 0)], [(0, 0)]]))

    def test_sixteen(self):
        table = (10, 6, [[(thing % 10, 0), (10, thing % 10)] for thing in range(16)])
        for choice in range(16):
            self.assertEqual(without(table, choice), (10, 6, table[2][:choice] + table[2][choice + 1:]))

    def test_the_covers_are_those_that_do_not_have_it(self):
        for table in some_tables(60, "without") + great_tables(3, "without"):
            for choice in range(len(table[2])):
                left = [cover for cover in covers_of(table) if choice not in cover]
                moved = [[other - (other > choice) for other in cover] for cover in left]
                self.assertEqual(covers_of(without(table, choice)), sorted(moved))

    def test_no_count_of_a_choice(self):
        for table in (ONE, OTHER, (1, 0, [])):
            many = len(table[2])
            for choice in (*OTHER_KINDS, many, many + 1, -1, -many - 1, [0], (0,), "0"):
                with self.subTest(choice=choice), self.assertRaises(BadChoice):
                    without(table, choice)

    def test_the_table_first(self):
        for choice in (None, 5, -1, True, 0):
            with self.assertRaises(BadTable):
                without(WRONG, choice)


class Renamed(unittest.TestCase):
    def test_the_thing_at_place_k_is_thing_k(self):
        table = (3, 1, [[(0, 0), (3, 7)], [(1, 0), (2, 0)], [(0, 0), (2, 0), (3, 1)], [(1, 0)]])
        self.assertEqual(renamed(table, [1, 2, 0]), (3, 1, [
            [(2, 0), (3, 7)], [(0, 0), (1, 0)], [(1, 0), (2, 0), (3, 1)], [(0, 0)],
        ]))
        self.assertEqual(renamed(table, [2, 0, 1]), (3, 1, [
            [(1, 0), (3, 7)], [(0, 0), (2, 0)], [(0, 0), (1, 0), (3, 1)], [(2, 0)],
        ]))

    def test_the_given_order(self):
        for table in (ONE, OTHER, (1, 0, [])):
            self.assertEqual(renamed(table, list(range(table[0]))), table)

    def test_one_thing_and_ten(self):
        self.assertEqual(renamed((1, 1, [[(0, 0), (1, 3)]]), [0]), (1, 1, [[(0, 0), (1, 3)]]))
        table = (10, 0, [[(thing, 0)] for thing in range(10)] + [[(0, 0), (1, 0), (9, 0)]])
        self.assertEqual(renamed(table, [9, 8, 7, 6, 5, 4, 3, 2, 1, 0]),
                         (10, 0, [[(thing, 0)] for thing in reversed(range(10))] + [[(0, 0), (8, 0), (9, 0)]]))

    def test_no_choices(self):
        self.assertEqual(renamed((3, 2, []), [2, 0, 1]), (3, 2, []))

    def test_things_beside_stay(self):
        table = (2, 3, [[(0, 0), (2, 9), (3, 0), (4, 1)], [(1, 0), (2, 0), (4, 8)]])
        self.assertEqual(renamed(table, [1, 0]), (2, 3, [[(1, 0), (2, 9), (3, 0), (4, 1)], [(0, 0), (2, 0), (4, 8)]]))

    def test_the_very_covers(self):
        chance = random.Random("renamed")
        for table in some_tables(60, "renamed") + great_tables(5, "renamed"):
            for order in orders_of(table[0], chance):
                made = renamed(table, order)
                rows = [{(order.index(thing) if thing < table[0] else thing, colour) for thing, colour in row}
                        for row in table[2]]
                self.assertEqual(made, (table[0], table[1], [sorted(row) for row in rows]))
                self.assertEqual(covers_of(made), covers_of(table))
                back = [order.index(thing) for thing in range(table[0])]
                self.assertEqual(renamed(made, back), table)

    def test_no_order(self):
        table = (4, 1, [some_row(4, 1, random.Random(place)) for place in range(3)])
        for order in wrong_orders(4):
            with self.subTest(order=order), self.assertRaises(BadOrder):
                renamed(table, order)

    def test_no_order_of_one_thing(self):
        for order in ([], [1], [-1], [0, 0], [False], [True], (0,), None, 0, "0"):
            with self.subTest(order=order), self.assertRaises(BadOrder):
                renamed((1, 1, [[(0, 0), (1, 1)]]), order)

    def test_an_order_of_all_things_or_of_the_choices(self):
        for order in ([0, 1, 2, 3], [0, 1, 2], [1, 2, 3, 0]):
            with self.assertRaises(BadOrder):
                renamed((2, 2, [[(0, 0)]] * 3), order)

    def test_the_table_first(self):
        for order in (None, [], [0, 0], [0, 1], [1, 0]):
            with self.assertRaises(BadTable):
                renamed(WRONG, order)


class Rearranged(unittest.TestCase):
    def test_the_choice_at_place_k_is_choice_k(self):
        rows = OTHER[2]
        self.assertEqual(rearranged(OTHER, [1, 2, 0]), (3, 1, [rows[1], rows[2], rows[0]]))
        self.assertEqual(rearranged(OTHER, [2, 0, 1]), (3, 1, [rows[2], rows[0], rows[1]]))

    def test_the_given_order(self):
        for table in (ONE, OTHER, (1, 0, [])):
            self.assertEqual(rearranged(table, list(range(len(table[2])))), table)

    def test_none_one_and_sixteen(self):
        self.assertEqual(rearranged((2, 1, []), []), (2, 1, []))
        self.assertEqual(rearranged((2, 1, [[(1, 0), (2, 4)]]), [0]), (2, 1, [[(1, 0), (2, 4)]]))
        table = (10, 6, [[(thing % 10, 0), (10, thing % 10)] for thing in range(16)])
        self.assertEqual(rearranged(table, list(range(16))[::-1]), (10, 6, table[2][::-1]))

    def test_the_covers_are_the_same_ones_by_other_counts(self):
        chance = random.Random("rearranged")
        for table in some_tables(60, "rearranged") + great_tables(3, "rearranged"):
            for order in orders_of(len(table[2]), chance):
                made = rearranged(table, order)
                self.assertEqual(made, (table[0], table[1], [table[2][choice] for choice in order]))
                covers = [sorted(order.index(choice) for choice in cover) for cover in covers_of(table)]
                self.assertEqual(covers_of(made), sorted(covers))

    def test_no_order(self):
        table = (3, 1, [some_row(3, 1, random.Random(place)) for place in range(5)])
        for order in wrong_orders(5):
            with self.subTest(order=order), self.assertRaises(BadOrder):
                rearranged(table, order)

    def test_no_order_of_none_and_of_one(self):
        for order in ([0], [-1], (), None, {}, "", b"", [None], [[]], False, 0):
            with self.subTest(order=order), self.assertRaises(BadOrder):
                rearranged((1, 0, []), order)
        for order in ([], [1], [-1], [0, 0], [False], [True], (0,), None, 0, "0"):
            with self.subTest(order=order), self.assertRaises(BadOrder):
                rearranged((1, 0, [[(0, 0)]]), order)

    def test_an_order_of_the_things(self):
        with self.assertRaises(BadOrder):
            rearranged((2, 0, [[(0, 0)]] * 3), [0, 1])

    def test_the_table_first(self):
        for order in (None, [], [0, 0], [0]):
            with self.assertRaises(BadTable):
                rearranged(WRONG, order)


class Lists(unittest.TestCase):
    def test_rows_that_are_one_list_are_told_as_several(self):
        row = [(0, 0), (1, 4)]
        table = (1, 1, [row, row, row])
        for made in (put_beside(table, table), without(table, 1), renamed(table, [0]), rearranged(table, [2, 0, 1])):
            self.assertEqual(len({id(inner) for inner in (row, *made[2])}), 1 + len(made[2]))

    def test_rows_are_lists_and_items_are_tuples(self):
        for made in (put_beside(ONE, OTHER), without(OTHER, 1), renamed(ONE, [1, 0]), rearranged(ONE, [1, 0])):
            self.assertIs(made.__class__, tuple)
            self.assertIs(made[2].__class__, list)
            self.assertEqual({row.__class__ for row in made[2]}, {list})
            self.assertEqual({item.__class__ for row in made[2] for item in row}, {tuple})


if __name__ == "__main__":
    unittest.main()
