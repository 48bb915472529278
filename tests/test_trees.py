import copy
import random
import unittest

from tests.helper import barred_tables, chain, changed, holds, own_things, some_tree, tree_of_own_things
from undocover.answers import Barred

# Things 0 to 2 are main, 3 is beside; thing 2 is only had by a choice that leaves thing 0 to one that has thing 1.
BARRED = (3, 1, [
    [(0, 0), (3, 1)],
    [(0, 0), (1, 0)],
    [(1, 0), (3, 2)],
    [(1, 0), (3, 1)],
    [(1, 0), (2, 0), (3, 3)],
])
RIGHT = ("split", 0, [
    (0, ("split", 1, [(3, ("stuck", 2))])),
    (1, ("stuck", 2)),
])
# With one more choice it has the cover [0, 5].
COVERED = (3, 1, [*BARRED[2], [(1, 0), (2, 0)]])
# Things 0 to 2 by pairs: any two choices clash.
THREE = (3, 0, [[(0, 0), (1, 0)], [(1, 0), (2, 0)], [(0, 0), (2, 0)]])
FULL = ("split", 1, [(0, ("stuck", 2)), (1, ("stuck", 0))])
# Things 0 to 2 are main, 3 is beside, in colours by which thing 2 never goes with the others.
WIDE = (3, 1, [
    [(0, 0), (3, 1)], [(0, 0), (3, 2)],
    [(1, 0), (3, 1)], [(1, 0), (3, 2)],
    [(2, 0), (3, 3)],
])
DEEP = ("split", 0, [
    (0, ("split", 1, [(2, ("stuck", 2))])),
    (1, ("split", 1, [(3, ("stuck", 2))])),
])


def shown(tree, table):
    return Barred(tree).shows(table)


class RightTrees(unittest.TestCase):
    def test_stuck_at_once(self):
        self.assertIs(shown(("stuck", 0), (1, 0, [])), True)
        self.assertIs(shown(("stuck", 1), (3, 0, [[(0, 0), (2, 0)]])), True)
        self.assertIs(shown(("stuck", 9), (10, 0, [[(0, 0)]])), True)

    def test_splits(self):
        self.assertIs(shown(RIGHT, BARRED), True)
        self.assertIs(shown(FULL, THREE), True)
        self.assertIs(shown(DEEP, WIDE), True)

    def test_a_stuck_thing_may_be_split_of_further_on(self):
        table = (3, 0, [[(0, 0)]])
        for tree in (("stuck", 1), ("stuck", 2), ("split", 0, [(0, ("stuck", 1))]), ("split", 0, [(0, ("stuck", 2))])):
            self.assertIs(shown(tree, table), True)

    def test_choices_beside_go_by_their_colours(self):
        for colours, right in (((1, 2), True), ((0, 0), True), ((0, 1), True), ((1, 1), False)):
            table = (2, 1, [[(0, 0), (2, colours[0])], [(1, 0), (2, colours[1])]])
            self.assertIs(shown(("split", 0, [(0, ("stuck", 1))]), table), right)

    def test_as_deep_as_there_are_main_things(self):
        tree = ("stuck", 9)
        for thing in reversed(range(9)):
            tree = ("split", thing, [(thing, tree)])
        self.assertIs(shown(tree, (10, 0, [[(thing, 0)] for thing in range(9)])), True)

    def test_324_ends(self):
        """Things with 3, 3, 3, 3, 2 and 2 choices of their own, and one without."""
        sizes = [3, 3, 3, 3, 2, 2]
        self.assertIs(shown(tree_of_own_things(sizes), own_things(sizes, 1)), True)

    def test_the_same_table_asked_twice(self):
        answer = Barred(RIGHT)
        self.assertEqual([answer.shows(BARRED), answer.shows(BARRED)], [True, True])
        self.assertEqual([answer.shows(COVERED), answer.shows(COVERED), answer.shows(BARRED)], [False, False, True])


class WrongTrees(unittest.TestCase):
    def wrong(self, tree, table=WIDE):
        self.assertIs(shown(tree, table), False)

    def test_a_table_with_a_cover_has_none(self):
        self.wrong(("stuck", 0), (1, 0, [[(0, 0)]]))
        self.wrong(("split", 0, [(0, ("stuck", 0))]), (1, 0, [[(0, 0)]]))
        self.wrong(RIGHT, COVERED)
        inner = ("split", 1, [(3, ("stuck", 2)), (5, ("stuck", 2))])
        self.wrong(("split", 0, [(0, inner), (1, ("stuck", 2))]), COVERED)

    def test_a_thing_changed(self):
        for thing in (1, 2, 3, 4, -1, -3, 10 ** 30, -10 ** 30):
            self.wrong(("split", thing, DEEP[2]))
        for thing in (0, 2, 3, 4, -1, -2, 10 ** 30, -10 ** 30):
            self.wrong(("split", 0, [DEEP[2][0], (1, ("split", thing, [(3, ("stuck", 2))]))]))
        for thing in (0, 1, 3, 4, -1, 10 ** 30):
            self.wrong(("split", 0, [DEEP[2][0], (1, ("split", 1, [(3, ("stuck", thing))]))]))

    def test_a_choice_changed(self):
        for choice in (0, 2, 3, 4, 5, -1, -4, 10 ** 30, -10 ** 30):
            self.wrong(("split", 0, [DEEP[2][0], (choice, DEEP[2][1][1])]))

    def test_a_branch_left_out(self):
        self.wrong(("split", 0, DEEP[2][:1]))
        self.wrong(("split", 0, DEEP[2][1:]))

    def test_a_branch_put_twice(self):
        first, second = DEEP[2]
        for branches in ([first, first, second], [first, second, second], [first, first], [first, second, first]):
            self.wrong(("split", 0, branches))

    def test_branches_in_another_order(self):
        self.wrong(("split", 0, DEEP[2][::-1]))
        self.wrong(("split", 1, FULL[2][::-1]), THREE)

    def test_a_branch_of_a_choice_that_is_not_open(self):
        self.wrong(("split", 0, [(0, ("split", 1, [(2, ("stuck", 2)), (3, ("stuck", 2))])), DEEP[2][1]]))

    def test_a_branch_of_a_choice_without_the_thing(self):
        self.wrong(("split", 0, [*DEEP[2], (2, ("stuck", 2))]))

    def test_stuck_where_it_is_not(self):
        for thing in (0, 1, 2):
            self.wrong(("stuck", thing))
        self.wrong(("split", 0, [(0, ("stuck", 1)), DEEP[2][1]]))

    def test_stuck_at_a_thing_that_is_not_bare(self):
        """No open choice has thing 0 any more, but the taken one does."""
        self.wrong(("split", 0, [(0, ("stuck", 0)), DEEP[2][1]]))

    def test_stuck_at_no_main_thing(self):
        for thing in (1, 2, 3, -1, 10 ** 30):
            self.wrong(("stuck", thing), (1, 2, [[(0, 0), (1, 1)]]))

    def test_a_split_with_no_pairs(self):
        self.wrong(("split", 0, []))
        self.wrong(("split", 0, []), (1, 0, []))
        self.wrong(("split", 0, [(0, ("split", 1, []))]), (2, 1, [[(0, 0), (2, 0)], [(1, 0), (2, 0)]]))

    def test_a_split_of_a_thing_that_is_not_bare(self):
        table = (2, 0, [[(0, 0)]])
        self.wrong(("split", 0, [(0, ("split", 0, [(0, ("stuck", 1))]))]), table)
        self.wrong(("split", 0, [(0, ("split", 0, []))]), table)

    def test_a_split_of_no_main_thing(self):
        table = (2, 1, [[(0, 0), (2, 1)]])
        for thing in (2, 3, -1, -2):
            self.wrong(("split", thing, [(0, ("stuck", 1))]), table)

    def test_true_and_false_are_no_numbers(self):
        table = (2, 0, [[(0, 0)]])
        self.wrong(("stuck", True), table)
        self.wrong(("split", False, [(0, ("stuck", 1))]), table)
        self.wrong(("split", 0, [(False, ("stuck", 1))]), table)

    def test_a_wrong_tree_behind_right_ones(self):
        self.wrong(("split", 1, [(0, ("stuck", 2)), (1, ("stuck", 2))]), THREE)
        self.wrong(("split", 1, [(0, ("stuck", 0)), (1, ("stuck", 0))]), THREE)

    def test_tables_with_no_cover_and_trees_changed_by_chance(self):
        chance = random.Random("trees")
        seen = {True: 0, False: 0}
        for table in barred_tables(150, "trees"):
            tree = some_tree(table, chance)
            self.assertIs(shown(tree, table), True, (table, tree))
            for turn in range(30):
                other = changed(tree, table, chance)
                right = holds(table, other)
                seen[right] += 1
                self.assertIs(shown(other, table), right, (table, other))
        self.assertGreater(min(seen.values()), 100)


class Fields(unittest.TestCase):
    def test_the_field_is_the_tree(self):
        for tree in (("stuck", 4), RIGHT, FULL, DEEP, ("split", -1, []), ("split", 10 ** 30, [(-5, ("stuck", -9))])):
            answer = Barred(tree)
            self.assertEqual(vars(answer), {"tree": tree})

    def test_lists_handed_in_changed_afterwards_at_every_depth(self):
        low = [(3, ("stuck", 2))]
        high = [(0, ("split", 1, low)), (1, ("stuck", 2))]
        answer = Barred(("split", 0, high))
        for some in (low, high):
            some.append((9, ("stuck", 9)))
            some.reverse()
            self.assertEqual(answer.tree, RIGHT)
            self.assertIs(answer.shows(BARRED), True)

    def test_lists_of_the_field_are_not_those_handed_in(self):
        tree = copy.deepcopy(RIGHT)
        answer = Barred(tree)
        answer.tree[2][0][1][2].clear()
        answer.tree[2].pop()
        self.assertEqual(tree, RIGHT)
        self.assertIs(answer.shows(BARRED), False)

    def test_one_list_in_several_places(self):
        ends = [(2, ("stuck", 2))]
        table = (3, 0, [[(0, 0)], [(0, 0)], [(1, 0)]])
        answer = Barred(("split", 0, [(0, ("split", 1, ends)), (1, ("split", 1, ends))]))
        self.assertIs(answer.shows(table), True)
        ends.clear()
        self.assertIs(answer.shows(table), True)

    def test_fields_changed_afterwards(self):
        answer = Barred(RIGHT)
        answer.tree = FULL
        self.assertEqual([answer.shows(BARRED), answer.shows(THREE)], [False, True])
        answer.tree = copy.deepcopy(DEEP)
        self.assertIs(answer.shows(WIDE), True)
        inner = answer.tree[2][1][1][2]
        inner[0] = (3, ("stuck", 1))
        self.assertIs(answer.shows(WIDE), False)
        inner[0] = (3, ("stuck", 2))
        self.assertIs(answer.shows(WIDE), True)
        answer.tree[2].reverse()
        self.assertIs(answer.shows(WIDE), False)

    def test_what_is_handed_in_stays(self):
        tree, table = copy.deepcopy(DEEP), copy.deepcopy(WIDE)
        answer = Barred(tree)
        answer.shows(table)
        self.assertEqual((tree, table, answer.tree), (DEEP, WIDE, DEEP))

    def test_the_table_is_not_kept(self):
        table = copy.deepcopy(WIDE)
        answer = Barred(DEEP)
        self.assertIs(answer.shows(table), True)
        table[2].pop()
        table[2].append([(2, 0)])
        self.assertIs(answer.shows(table), False)

    def test_a_table_somewhat_beyond_the_bounds_raises_nothing(self):
        table = (12, 7, [[(thing, 0), (12, 12)] for thing in range(11)] + [[(0, 0)]] * 7)
        self.assertIs(shown(("stuck", 11), table), True)
        self.assertIs(shown(("stuck", 10), table), False)


class GreatTrees(unittest.TestCase):
    """Ten thousand nodes; nothing here compares or prints a whole tree, as Python itself does not go so deep."""

    def test_a_chain_is_answered(self):
        for thing_at in (lambda depth: 0, lambda depth: depth, lambda depth: -depth, lambda depth: depth % 2):
            tree, lists = chain(9999, thing_at)
            for table in ((1, 0, []), (1, 0, [[(0, 0)]]), (10, 0, [[(thing, 0)] for thing in range(9)])):
                answer = Barred(tree)
                self.assertIs(answer.shows(table), False)

    def test_a_chain_is_copied_to_its_end(self):
        tree, lists = chain(9999, lambda depth: depth)
        answer = Barred(tree)
        for some in lists:
            some.append("changed")
        node, depth = answer.tree, 0
        while node[0] == "split":
            self.assertEqual((node[1], len(node[2]), node[2][0][0]), (depth, 1, depth))
            node, depth = node[2][0][1], depth + 1
        self.assertEqual((node, depth), (("stuck", 9999), 9999))

    def test_a_right_tree_with_a_chain_at_one_place(self):
        tree, lists = chain(9000, lambda depth: 2)
        table = (3, 0, [[(0, 0), (1, 0)], [(0, 0)], [(1, 0)]])
        right = ("split", 0, [(0, ("stuck", 2)), (1, ("stuck", 2))])
        self.assertIs(shown(right, table), True)
        self.assertIs(shown(("split", 0, [(0, ("stuck", 2)), (1, tree)]), table), False)
        self.assertIs(shown(("split", 0, [(0, tree), (1, ("stuck", 2))]), table), False)

    def test_many_pairs(self):
        end = ("stuck", 1)
        table = (2, 0, [[(0, 0)]])
        self.assertIs(shown(("split", 0, [(0, end)]), table), True)
        self.assertIs(shown(("split", 0, [(0, end)] * 9999), table), False)
        self.assertIs(shown(("split", 0, [(choice, end) for choice in range(9999)]), table), False)

    def test_one_tree_in_several_places(self):
        tree = ("stuck", 0)
        for depth in range(12):
            tree = ("split", depth, [(0, tree), (1, tree)])
        self.assertIs(shown(tree, (10, 0, [[(thing, 0)] for thing in range(10)])), False)


if __name__ == "__main__":
    unittest.main()
