import unittest

from tests.helper import OTHER_KINDS
from undocover.answers import Best
from undocover.errors import BadChoice, BadNumber, BadOrder, BadPrices, BadTable, NoCover, TooGreat
from undocover.finding import sought
from undocover.joining import put_beside, rearranged, renamed, without
from undocover.parts import forced, idle, part_table, parts, uses
from undocover.prices import cheapest
from undocover.ranks import all_covers, by_number, how_many, next_one, number_of
from undocover.room import Room
from undocover.tables import bare, clash, going

# Its only cover is [0, 1].
TABLE = (2, 1, [[(0, 0), (2, 1)], [(1, 0), (2, 1)]])
GREAT = (10, 6, [[(0, 0)] for place in range(16)])
ASKED = [
    ("clash", lambda table: clash(table, 0, 1)),
    ("going", lambda table: going(table, [0, 1])),
    ("bare", lambda table: bare(table, [0, 1])),
    ("sought", sought),
    ("Room", Room),
    ("all_covers", all_covers),
    ("how_many", how_many),
    ("by_number", lambda table: by_number(table, 0)),
    ("number_of", lambda table: number_of(table, [0, 1])),
    ("next_one", lambda table: next_one(table, [0, 1])),
    ("parts", parts),
    ("part_table", lambda table: part_table(table, 0)),
    ("uses", uses),
    ("idle", idle),
    ("forced", forced),
    ("put_beside, one", lambda table: put_beside(table, TABLE)),
    ("put_beside, other", lambda table: put_beside(TABLE, table)),
    ("put_beside, both", lambda table: put_beside(table, table)),
    ("without", lambda table: without(table, 0)),
    ("renamed", lambda table: renamed(table, [1, 0])),
    ("rearranged", lambda table: rearranged(table, [1, 0])),
    ("cheapest", lambda table: cheapest(table, [1, 2])),
]
# Each is refused for another reason where the table is one.
ASKED_WRONG = [
    ("clash, wrong one", BadChoice, lambda table: clash(table, None, 0)),
    ("clash, wrong other", BadChoice, lambda table: clash(table, 0, 99)),
    ("going, wrong choices", BadChoice, lambda table: going(table, [1, 0])),
    ("bare, wrong choices", BadChoice, lambda table: bare(table, "01")),
    ("by_number, no number", BadNumber, lambda table: by_number(table, None)),
    ("by_number, too great", BadNumber, lambda table: by_number(table, 1)),
    ("number_of, wrong choices", BadChoice, lambda table: number_of(table, [1, 0])),
    ("number_of, no cover", NoCover, lambda table: number_of(table, [0])),
    ("next_one, wrong choices", BadChoice, lambda table: next_one(table, "01")),
    ("next_one, no cover", NoCover, lambda table: next_one(table, [])),
    ("part_table, no number", BadNumber, lambda table: part_table(table, None)),
    ("part_table, too great", BadNumber, lambda table: part_table(table, 1)),
    ("put_beside, too great with one", TooGreat, lambda table: put_beside(table, GREAT)),
    ("put_beside, too great with other", TooGreat, lambda table: put_beside(GREAT, table)),
    ("without, wrong choice", BadChoice, lambda table: without(table, 2)),
    ("renamed, wrong order", BadOrder, lambda table: renamed(table, [0, 1, 2])),
    ("rearranged, wrong order", BadOrder, lambda table: rearranged(table, [0, 0])),
    ("cheapest, no list", BadPrices, lambda table: cheapest(table, None)),
    ("cheapest, too few", BadPrices, lambda table: cheapest(table, [1])),
]


class Tables(unittest.TestCase):
    def refused(self, table):
        for name, ask in ASKED + [(name, ask) for name, other, ask in ASKED_WRONG]:
            with self.subTest(name, table=table), self.assertRaises(BadTable):
                ask(table)

    def goes(self, table):
        """Asked with choices that every table has, for it may have none."""
        with self.subTest(table=table):
            self.assertIs(going(table, []), True)
            self.assertEqual(bare(table, []), list(range(table[0])))
            self.assertIs(sought(table).shows(table), True)
            self.assertEqual(Room(table).how_many(), how_many(table))
            self.assertEqual(len(all_covers(table)), how_many(table))
            self.assertEqual(sorted(sum(parts(table), [])), list(range(table[0])))
            self.assertEqual(len(uses(table)), len(table[2]))
            self.assertEqual(renamed(table, list(range(table[0]))), table)
            self.assertEqual(rearranged(table, list(range(len(table[2])))), table)
            self.assertEqual(cheapest(table, [0] * len(table[2])).__class__ is Best, how_many(table) > 0)
            if table[2]:
                self.assertEqual(len(without(table, 0)[2]), len(table[2]) - 1)
                self.assertIs(clash(table, 0, len(table[2]) - 1), True)

    def test_the_table_they_start_from_goes(self):
        for name, ask in ASKED:
            ask(TABLE)
        for name, other, ask in ASKED_WRONG:
            with self.subTest(name), self.assertRaises(other):
                ask(TABLE)

    def test_other_kinds_for_the_table(self):
        for other in OTHER_KINDS:
            self.refused(other)
        for other in (list(TABLE), TABLE[:2], (*TABLE, 0), (TABLE,), 2, 0, "(2, 1, [])"):
            self.refused(other)

    def test_other_kinds_for_how_many_things(self):
        for other in OTHER_KINDS:
            self.refused((other, 1, TABLE[2]))
            self.refused((2, other, TABLE[2]))

    def test_true_and_false_are_no_numbers_of_things(self):
        self.refused((True, 0, []))
        self.refused((1, False, []))
        self.refused((1, True, []))

    def test_other_kinds_for_the_choices(self):
        for other in OTHER_KINDS:
            if other != []:
                self.refused((2, 1, other))
        self.refused((2, 1, tuple(TABLE[2])))
        self.refused((2, 1, dict(enumerate(TABLE[2]))))
        self.refused((2, 1, 0))

    def test_other_kinds_for_a_choice(self):
        for other in OTHER_KINDS:
            self.refused((2, 1, [other, TABLE[2][1]]))
            self.refused((2, 1, [*TABLE[2], other]))
        self.refused((2, 1, [tuple(TABLE[2][0]), TABLE[2][1]]))
        self.refused((2, 1, [(0, 0), (1, 0)]))

    def test_other_kinds_for_an_item(self):
        for other in OTHER_KINDS:
            self.refused((2, 1, [[other], TABLE[2][1]]))
            self.refused((2, 1, [[(0, 0), other], TABLE[2][1]]))
        for other in ([0, 0], (0, 0, 0), (0,), 0):
            self.refused((2, 1, [[other], TABLE[2][1]]))

    def test_other_kinds_for_a_thing_and_a_colour(self):
        for other in OTHER_KINDS:
            self.refused((2, 1, [[(other, 0)], TABLE[2][1]]))
            self.refused((2, 1, [[(0, other)], TABLE[2][1]]))
            self.refused((2, 1, [[(0, 0), (2, other)], TABLE[2][1]]))

    def test_bounds_of_main_things(self):
        rows = [[(0, 0)], [(0, 0)]]
        for main in (1, 10):
            self.goes((main, 1, rows))
        for main in (-1, 0, 11):
            self.refused((main, 1, rows))
            self.refused((main, 1, []))

    def test_bounds_of_things_beside(self):
        rows = [[(0, 0)], [(0, 0)]]
        for beside in (0, 6):
            self.goes((1, beside, rows))
        for beside in (-1, 7):
            self.refused((1, beside, rows))
            self.refused((1, beside, []))

    def test_bounds_of_choices(self):
        for many in (0, 1, 15, 16):
            self.goes((1, 0, [[(0, 0)] for place in range(many)]))
        for many in (17, 18, 40):
            self.refused((1, 0, [[(0, 0)] for place in range(many)]))

    def test_the_greatest_table_goes(self):
        row = [(thing, 0) for thing in range(10)] + [(thing, 9) for thing in range(10, 16)]
        self.goes((10, 6, [row for place in range(16)]))

    def test_bounds_of_things(self):
        self.goes((2, 3, [[(0, 0), (1, 0), (2, 0), (3, 0), (4, 0)]]))
        self.refused((2, 3, [[(0, 0), (5, 0)]]))
        self.refused((2, 0, [[(0, 0), (2, 0)]]))
        self.refused((2, 0, [[(2, 0)]]))
        self.refused((2, 3, [[(-1, 0), (0, 0)]]))
        self.refused((2, 3, [[(-5, 0)]]))

    def test_bounds_of_colours(self):
        for colour in (0, 1, 8, 9):
            self.goes((2, 1, [[(0, 0), (2, colour)]]))
        for colour in (-1, 10):
            self.refused((2, 1, [[(0, 0), (2, colour)]]))

    def test_a_main_thing_with_a_colour(self):
        for colour in (-1, 1, 9):
            self.refused((2, 1, [[(0, colour)]]))
            self.refused((2, 1, [[(0, 0), (1, colour)]]))
        self.refused((2, 1, [[(0, False)]]))

    def test_things_that_do_not_rise(self):
        self.refused((2, 2, [[(1, 0), (0, 0)]]))
        self.refused((2, 2, [[(0, 0), (3, 1), (2, 1)]]))
        self.refused((2, 2, [[(0, 0), (2, 1), (1, 0)]]))

    def test_things_twice(self):
        self.refused((2, 2, [[(0, 0), (0, 0)]]))
        self.refused((2, 2, [[(0, 0), (2, 1), (2, 1)]]))
        self.refused((2, 2, [[(0, 0), (2, 1), (2, 2)]]))

    def test_a_choice_without_a_main_thing(self):
        self.refused((2, 2, [[]]))
        self.refused((2, 2, [[(2, 1)]]))
        self.refused((2, 2, [[(2, 1), (3, 1)]]))
        self.refused((2, 2, [[(2, 1), (0, 0)]]))

    def test_a_wrong_choice_behind_right_ones(self):
        self.refused((2, 1, [*TABLE[2], [(1, 0), (0, 0)]]))


class Choices(unittest.TestCase):
    def refused(self, choice):
        for name, ask in (("one", lambda: clash(TABLE, choice, 0)), ("other", lambda: clash(TABLE, 1, choice)),
                          ("both", lambda: clash(TABLE, choice, choice))):
            with self.subTest(name, choice=choice), self.assertRaises(BadChoice):
                ask()

    def refused_list(self, choices, table=TABLE):
        for ask in (going, bare):
            with self.subTest(ask.__name__, choices=choices), self.assertRaises(BadChoice):
                ask(table, choices)

    def test_no_count_of_a_choice(self):
        for choice in (*OTHER_KINDS, 2, 3, -2, [0], (0,), "1"):
            self.refused(choice)

    def test_a_table_without_choices_has_no_count(self):
        with self.assertRaises(BadChoice):
            clash((1, 0, []), 0, 0)
        self.refused_list([0], (1, 0, []))

    def test_no_list(self):
        for choices in (*OTHER_KINDS, (0, 1), {0: 1}, "01", 0):
            if choices not in ([], [0]):
                self.refused_list(choices)

    def test_other_kinds_within_the_list(self):
        for other in OTHER_KINDS:
            self.refused_list([other])
            self.refused_list([0, other])
            self.refused_list([other, 1])

    def test_counts_beyond(self):
        for choices in ([-1], [-1, 0], [2], [0, 1, 2], [0, 10 ** 30], [-2, -1]):
            self.refused_list(choices)

    def test_not_rising_or_twice(self):
        for choices in ([1, 0], [0, 0], [1, 1], [0, 1, 1], [0, 1, 0]):
            self.refused_list(choices)

    def test_what_is_just_within_goes(self):
        self.assertIs(clash(TABLE, 0, 1), False)
        self.assertIs(clash(TABLE, 1, 1), True)
        for choices in ([], [0], [1], [0, 1]):
            self.assertIs(going(TABLE, choices), True)
            self.assertEqual(bare(TABLE, choices), [thing for thing in (0, 1) if thing not in choices])


if __name__ == "__main__":
    unittest.main()
