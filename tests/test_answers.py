import copy
import itertools
import unittest

from tests.helper import covers_of, some_tables
from undocover.answers import Answer, Barred, Best, Cover

# Its covers are [0, 1], [0, 4], [2, 3] and [2, 6].
TABLE = (3, 1, [
    [(0, 0), (3, 1)],
    [(1, 0), (2, 0), (3, 1)],
    [(0, 0), (1, 0)],
    [(2, 0), (3, 0)],
    [(1, 0), (2, 0)],
    [(1, 0), (3, 2)],
    [(2, 0), (3, 1)],
])


class Classes(unittest.TestCase):
    def test_they_stand_straight_under_answer(self):
        for kind in (Cover, Barred, Best):
            self.assertEqual(kind.__bases__, (Answer,))

    def test_shows_stands_in_the_classes_themselves(self):
        self.assertIn("shows", vars(Cover))
        self.assertIn("shows", vars(Barred))

    def test_they_can_be_made_by_the_names_of_their_fields(self):
        self.assertEqual(Cover(choices=[1]).choices, [1])
        self.assertEqual(Barred(tree=("stuck", 1)).tree, ("stuck", 1))
        best = Best(price=7, choices=[1])
        self.assertEqual((best.choices, best.price), ([1], 7))


class BestFields(unittest.TestCase):
    def test_fields(self):
        for price in (0, -5, 10 ** 40):
            best = Best([0, 2], price)
            self.assertEqual(vars(best), {"choices": [0, 2], "price": price})

    def test_its_list_is_a_copy(self):
        choices = [0, 2]
        best = Best(choices, 4)
        choices.append(3)
        self.assertEqual(best.choices, [0, 2])
        best.choices.append(5)
        self.assertEqual(choices, [0, 2, 3])


class CoverShows(unittest.TestCase):
    def shown(self, choices, table=TABLE):
        return Cover(choices).shows(table)

    def test_covers(self):
        self.assertEqual(covers_of(TABLE), [[0, 1], [0, 4], [2, 3], [2, 6]])
        for choices in covers_of(TABLE):
            self.assertIs(self.shown(choices), True)

    def test_one_choice_out(self):
        for choices in ([0], [1], [2], [3], [4]):
            self.assertIs(self.shown(choices), False)

    def test_one_more(self):
        for choices in ([0, 1, 2], [0, 1, 4], [2, 3, 6], [0, 1, 6]):
            self.assertIs(self.shown(choices), False)

    def test_another_order(self):
        for choices in ([1, 0], [4, 0], [3, 2]):
            self.assertIs(self.shown(choices), False)

    def test_a_count_twice(self):
        for choices in ([0, 0, 1], [0, 1, 1], [2, 2, 3, 3]):
            self.assertIs(self.shown(choices), False)

    def test_counts_that_are_none(self):
        for choices in ([-7, 1], [-7, -6], [0, -6], [0, 7], [0, 1, 7], [0, 1, 10 ** 30], [-10 ** 30, 0, 1], [-1, 0, 1]):
            self.assertIs(self.shown(choices), False)
        self.assertIs(self.shown([0], (1, 0, [])), False)
        self.assertIs(self.shown([-1], (1, 0, [[(0, 0)]])), False)
        self.assertIs(self.shown([1], (1, 0, [[(0, 0)]])), False)

    def test_true_and_false_are_no_counts(self):
        self.assertIs(self.shown([False, True]), False)
        self.assertIs(self.shown([False], (1, 0, [[(0, 0)]])), False)

    def test_choices_that_clash(self):
        self.assertIs(self.shown([1, 2]), False)
        self.assertIs(self.shown([0, 5, 6]), False)
        self.assertIs(self.shown([0, 1], (2, 1, [[(0, 0), (2, 0)], [(1, 0), (2, 0)]])), False)
        self.assertIs(self.shown([0, 1], (2, 1, [[(0, 0), (2, 4)], [(1, 0), (2, 4)]])), True)

    def test_the_empty_list(self):
        self.assertIs(self.shown([]), False)
        self.assertIs(self.shown([], (1, 0, [])), False)

    def test_fields_changed_afterwards(self):
        answer = Cover([0, 1])
        self.assertIs(answer.shows(TABLE), True)
        answer.choices.append(2)
        self.assertIs(answer.shows(TABLE), False)
        answer.choices = [2, 3]
        self.assertIs(answer.shows(TABLE), True)
        answer.choices.reverse()
        self.assertIs(answer.shows(TABLE), False)
        answer.choices.clear()
        self.assertIs(answer.shows(TABLE), False)

    def test_the_list_handed_in_changed_afterwards(self):
        choices = [0, 1]
        answer = Cover(choices)
        choices.append(2)
        self.assertEqual(answer.choices, [0, 1])
        self.assertIs(answer.shows(TABLE), True)
        answer.choices.append(9)
        self.assertEqual(choices, [0, 1, 2])

    def test_what_is_handed_in_stays(self):
        table, choices = copy.deepcopy(TABLE), [0, 1]
        answer = Cover(choices)
        self.assertIs(answer.shows(table), True)
        self.assertEqual((table, choices, answer.choices), (TABLE, [0, 1], [0, 1]))

    def test_the_table_is_not_kept(self):
        table = copy.deepcopy(TABLE)
        answer = Cover([0, 1])
        self.assertIs(answer.shows(table), True)
        table[2].pop(0)
        self.assertIs(answer.shows(table), False)
        self.assertEqual(vars(answer), {"choices": [0, 1]})

    def test_a_table_somewhat_beyond_the_bounds_raises_nothing(self):
        table = (11, 7, [[(thing, 0), (11, 12)] for thing in range(11)] + [[(0, 0)]] * 6)
        self.assertIs(self.shown(list(range(11)), table), True)
        self.assertIs(self.shown(list(range(10)), table), False)

    def test_tables_by_chance(self):
        for table in some_tables(80, "covers"):
            right = covers_of(table)
            for size in range(5):
                for some in itertools.combinations(range(len(table[2])), size):
                    self.assertIs(self.shown(list(some), table), list(some) in right, (table, some))


if __name__ == "__main__":
    unittest.main()
