import random
import unittest

from tests.helper import OTHER_KINDS, barred_tables, covers_of, great_tables, holds, own_things, some_tables
from undocover.answers import Barred, Best
from undocover.errors import BadPrices, BadTable
from undocover.prices import cheapest

# Its covers are [0, 1], [0, 4], [2, 3] and [2, 6].
TABLE = (3, 1, [
    [(0, 0), (3, 1)],
    [(1, 0), (2, 0), (3, 1)],
    [(0, 0), (1, 0)],
    [(2, 0), (3, 0)],
    [(1, 0), (2, 0)],
    [(1, 0), (3, 2)],
    [(2, 0), (3, 1)],
])
WRONG = (2, 0, [[(1, 0), (0, 0)]])


class Cheapest(unittest.TestCase):
    def best(self, prices, choices, price, table=TABLE):
        told = cheapest(table, prices)
        self.assertIs(told.__class__, Best)
        self.assertEqual(vars(told), {"choices": choices, "price": price})
        self.assertIs(told.price.__class__, int)

    def test_one_that_costs_the_least(self):
        self.best([1, 1, 9, 9, 9, 9, 9], [0, 1], 2)
        self.best([1, 9, 9, 9, 1, 9, 9], [0, 4], 2)
        self.best([9, 9, 1, 1, 9, 9, 9], [2, 3], 2)
        self.best([9, 9, 1, 9, 9, 9, 1], [2, 6], 2)

    def test_alike_ones(self):
        self.best([0, 0, 0, 0, 0, 0, 0], [0, 1], 0)
        self.best([4, 4, 3, 5, 4, 0, 5], [0, 1], 8)
        self.best([9, 9, 3, 5, 9, 0, 5], [2, 3], 8)
        self.best([5, 6, 3, 6, 5, 0, 7], [2, 3], 9)
        self.best([5, 6, 3, 6, 4, 0, 6], [0, 4], 9)

    def test_a_choice_that_is_in_no_cover(self):
        self.best([1, 1, 1, 1, 1, -1000, 1], [0, 1], 2)

    def test_prices_of_any_sign(self):
        self.best([-1, -1, -1, -1, -1, -1, -2], [2, 6], -3)
        self.best([0, -5, 3, 7, -4, 0, -8], [0, 1], -5)
        self.best([5, -5, 3, -3, 0, 0, 0], [0, 1], 0)
        self.best([5, -4, 3, -3, 0, 0, 0], [2, 3], 0)

    def test_fewer_choices_do_not_cost_less(self):
        self.best([5, 1, 1], [1, 2], 2, (2, 0, [[(0, 0), (1, 0)], [(0, 0)], [(1, 0)]]))
        self.best([2, 1, 1], [0], 2, (2, 0, [[(0, 0), (1, 0)], [(0, 0)], [(1, 0)]]))
        self.best([1, 1, 2], [0, 1], 2, (2, 0, [[(0, 0)], [(1, 0)], [(0, 0), (1, 0)]]))
        self.best([1, 1, 1], [2], 1, (2, 0, [[(0, 0)], [(1, 0)], [(0, 0), (1, 0)]]))

    def test_great_ones_a_hair_apart(self):
        for great in (2 ** 53, 10 ** 30, 10 ** 400, 10 ** 5000):
            for sign in (1, -1):
                prices = [sign * great] * 7
                self.best(prices, [0, 1], 2 * sign * great)
                prices[6] -= 1
                self.best(prices, [2, 6], 2 * sign * great - 1)
                prices[4] -= 2
                self.best(prices, [0, 4], 2 * sign * great - 2)
                prices[2] -= 1
                self.best(prices, [0, 4], 2 * sign * great - 2)

    def test_great_ones_that_take_one_another_away(self):
        self.best([10 ** 40, 1 - 10 ** 40, 0, 2, 0, 0, 3], [0, 1], 1)

    def test_only_one_cover(self):
        self.best([7], [0], 7, (1, 0, [[(0, 0)]]))
        self.best([100, 50, -3], [1, 2], 47, (3, 0, [[(0, 0), (1, 0)], [(1, 0), (2, 0)], [(0, 0)]]))

    def test_as_many_as_there_can_be(self):
        table = own_things([3, 3, 3, 3, 2, 2])
        self.best([3, 2, 1] * 4 + [2, 1] * 2, [2, 5, 8, 11, 13, 15], 6, table)
        self.best([1] * 16, [0, 3, 6, 9, 12, 14], 6, table)

    def test_tables_by_chance(self):
        chance = random.Random("prices")
        for table in some_tables(200, "prices", 4, 2, 10) + great_tables(10, "prices"):
            covers = covers_of(table)
            for great in (1, 3, 10 ** 20):
                prices = [chance.randint(-great, great) for row in table[2]]
                costs = [sum(prices[choice] for choice in cover) for cover in covers]
                if covers:
                    self.best(prices, covers[costs.index(min(costs))], min(costs), table)
                else:
                    self.assertIs(cheapest(table, prices).__class__, Barred)

    def test_no_cover(self):
        for table in [(1, 0, []), (2, 0, [[(0, 0)]]), *barred_tables(30, "prices")]:
            told = cheapest(table, [-1] * len(table[2]))
            self.assertIs(told.__class__, Barred)
            self.assertEqual(list(vars(told)), ["tree"])
            self.assertIs(holds(table, told.tree), True)
            self.assertIs(told.shows(table), True)

    def test_what_is_told_is_the_askers_own(self):
        prices = [1, 1, 9, 9, 9, 9, 9]
        cheapest(TABLE, prices).choices.append(9)
        self.assertEqual(cheapest(TABLE, prices).choices, [0, 1])
        self.assertEqual(prices, [1, 1, 9, 9, 9, 9, 9])

    def test_prices_changed_afterwards(self):
        prices = [1, 1, 9, 9, 9, 9, 9]
        told = cheapest(TABLE, prices)
        prices[0] = 100
        self.assertEqual(vars(told), {"choices": [0, 1], "price": 2})


class Refused(unittest.TestCase):
    def refused(self, prices, table=TABLE):
        with self.subTest(prices=prices), self.assertRaises(BadPrices):
            cheapest(table, prices)

    def test_too_few_and_too_many(self):
        for many in (0, 1, 6, 8, 14):
            self.refused([1] * many)
        self.refused([1], (1, 0, []))
        self.refused([], (1, 0, [[(0, 0)]]))
        self.refused([1, 1], (2, 0, [[(0, 0)]]))
        self.refused([1, 1, 1], (3, 0, [[(0, 0)]]))

    def test_no_list(self):
        for prices in (*OTHER_KINDS, (1,) * 7, dict.fromkeys(range(7), 1), "1234567", b"1234567", range(7),
                       set(range(7)), iter([1] * 7), 7, 1):
            self.refused(prices)
        for prices in ((), {}, "", b"", None, 0, False):
            self.refused(prices, (1, 0, []))

    def test_other_kinds_within_the_list(self):
        for other in OTHER_KINDS:
            if isinstance(other, bool) or not isinstance(other, int):
                for place in (0, 3, 5, 6):
                    self.refused([other if at == place else 1 for at in range(7)])
        self.refused([True] * 7)
        self.refused([False] * 7)
        self.refused(["1"] * 7)
        self.refused([[1]] * 7)

    def test_where_there_is_no_cover_too(self):
        for prices in (None, [], [True], [1, 1], [None]):
            self.refused(prices, (2, 0, [[(0, 0)]]))

    def test_the_table_first(self):
        for prices in (None, [], [1], [1, 1], [True]):
            with self.assertRaises(BadTable):
                cheapest(WRONG, prices)


if __name__ == "__main__":
    unittest.main()
