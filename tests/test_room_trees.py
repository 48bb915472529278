import copy
import random
import unittest

from tests.helper import (chain, changed, covers_of, done, ends, holds, own_things, some_tables, some_tree,
                          tree_of_own_things)
from undocover.answers import Barred
from undocover.room import Room

# Things 0 to 3 are main, 4 is beside, in colours by which thing 2 goes with the others by choice 5 only.
TABLE = (4, 1, [
    [(0, 0), (4, 1)], [(0, 0), (4, 2)],
    [(1, 0), (4, 1)], [(1, 0), (4, 2)],
    [(2, 0), (4, 3)], [(2, 0), (4, 1)],
    [(3, 0)], [(3, 0)],
])
# With choice 5 barred there is no cover, and this is a tree.
DEEDS = [("bar", 5)]
TREE = ("split", 0, [
    (0, ("split", 1, [(2, ("stuck", 2))])),
    (1, ("split", 1, [(3, ("stuck", 2))])),
])


def made(table, deeds):
    return done(Room(table), deeds)


class RightTrees(unittest.TestCase):
    def right(self, tree, deeds, table=TABLE):
        self.assertIs(made(table, deeds).bars(tree), True)

    def test_barred_choices_are_never_open(self):
        self.right(TREE, DEEDS)
        self.right(("stuck", 3), [("bar", 7), ("bar", 6)])
        self.right(("stuck", 0), [("bar", 0)], (1, 0, [[(0, 0)]]))
        self.right(("split", 0, [(0, TREE[2][0][1])]), [*DEEDS, ("bar", 1)])

    def test_from_the_taken_choices_on(self):
        self.right(("stuck", 2), [("take", 1)])
        self.right(("split", 1, [(3, ("stuck", 2))]), [("take", 1)])
        self.right(("split", 3, [(6, ("stuck", 2)), (7, ("stuck", 2))]), [("take", 1)])
        self.right(("stuck", 2), [("take", 1), ("take", 3)])
        self.right(TREE[2][0][1], [*DEEDS, ("take", 0)])

    def test_other_turns_of_the_deeds(self):
        for deeds in ([("take", 1), ("take", 6)], [("take", 6), ("take", 1)], [("take", 7), ("bar", 4), ("take", 1)]):
            self.right(("stuck", 2), deeds)
            self.right(("split", 1, [(3, ("stuck", 2))]), deeds)

    def test_behind_undos(self):
        room = made(TABLE, [*DEEDS, ("take", 0)])
        self.assertEqual([room.bars(TREE), room.bars(TREE[2][0][1])], [False, True])
        room.undo()
        self.assertEqual([room.bars(TREE), room.bars(TREE[2][0][1])], [True, False])
        room.undo()
        self.assertIs(room.bars(TREE), False)

    def test_the_told_tree(self):
        for deeds in (DEEDS, [*DEEDS, ("take", 6)], [("take", 1)], [("take", 4)], [("bar", 6), ("bar", 7)]):
            answer = made(TABLE, deeds).found()
            self.assertIs(answer.__class__, Barred)
            self.right(answer.tree, deeds)

    def test_as_deep_as_there_are_things_left(self):
        tree = ("stuck", 9)
        for thing in reversed(range(1, 9)):
            tree = ("split", thing, [(thing, tree)])
        table = (10, 0, [[(thing, 0)] for thing in range(10)])
        self.right(tree, [("bar", 9), ("take", 0)], table)
        self.right(("split", 0, [(0, tree)]), [("bar", 9)], table)

    def test_324_ends(self):
        sizes = [3, 3, 3, 3, 2, 2]
        tree = tree_of_own_things(sizes)
        self.assertEqual(ends(tree), 324)
        self.right(tree, [], own_things(sizes, 1))


class WrongTrees(unittest.TestCase):
    def wrong(self, tree, deeds=DEEDS, table=TABLE):
        self.assertIs(made(table, deeds).bars(tree), False)

    def test_a_branch_out(self):
        self.wrong(("split", 0, TREE[2][:1]))
        self.wrong(("split", 0, TREE[2][1:]))

    def test_a_branch_twice(self):
        first, second = TREE[2]
        for branches in ([first, first, second], [first, second, second], [first, second, first], [first, first]):
            self.wrong(("split", 0, branches))

    def test_another_order(self):
        self.wrong(("split", 0, TREE[2][::-1]))

    def test_another_thing(self):
        for thing in (1, 2, 3, 4, 5, -1, -4, 10 ** 30, -10 ** 30):
            self.wrong(("split", thing, TREE[2]))
        for thing in (0, 1, 3, 4, 5, -1, -2, 10 ** 30):
            self.wrong(("split", 0, [TREE[2][0], (1, ("split", 1, [(3, ("stuck", thing))]))]))
            self.wrong(("stuck", thing), [("take", 1)])

    def test_another_choice(self):
        for choice in (0, 2, 3, 4, 8, -1, -7, 10 ** 30):
            self.wrong(("split", 0, [TREE[2][0], (choice, TREE[2][1][1])]))

    def test_stuck_where_it_is_not(self):
        for thing in (0, 1, 2, 3):
            self.wrong(("stuck", thing))
            self.wrong(("stuck", thing), [("take", 0)])

    def test_a_split_with_no_pairs(self):
        for deeds in (DEEDS, [], [("take", 1)]):
            for thing in range(5):
                self.wrong(("split", thing, []), deeds)
        self.wrong(("split", 3, []), [("bar", 6), ("bar", 7)])

    def test_of_a_thing_that_is_covered(self):
        """No open choice has thing 0 any more, but the taken one does."""
        self.wrong(("stuck", 0), [("take", 1)])
        self.wrong(("split", 0, [(1, ("stuck", 2))]), [("take", 1)])
        self.wrong(("split", 1, [(3, ("stuck", 1))]), [("take", 1)])

    def test_of_no_main_thing(self):
        self.wrong(("stuck", 4), [("take", 1)])
        self.wrong(("stuck", 5), [("take", 1)])
        self.wrong(("split", 4, [(3, ("stuck", 2))]), [("take", 1)])
        self.wrong(("stuck", 2), [("bar", 0)], (2, 1, [[(0, 0), (2, 1)]]))

    def test_a_branch_of_a_barred_choice(self):
        self.wrong(("split", 0, [(0, TREE[2][0][1]), (1, TREE[2][1][1])]), [*DEEDS, ("bar", 1)])
        self.wrong(("split", 2, [(4, ("stuck", 0)), (5, ("stuck", 0))]), DEEDS)

    def test_a_branch_of_a_choice_that_clashes_with_a_taken_one(self):
        self.wrong(("split", 1, [(2, ("stuck", 2)), (3, ("stuck", 2))]), [("take", 1)])
        self.wrong(("split", 0, [(0, TREE[2][0][1]), (1, ("split", 1, [(2, ("stuck", 2)), (3, ("stuck", 2))]))]))

    def test_a_room_with_a_cover_has_none(self):
        self.wrong(TREE, [])
        self.wrong(TREE, [("bar", 4)])
        self.wrong(("split", 1, [(2, ("stuck", 2))]), [("take", 0)])

    def test_all_things_covered(self):
        deeds = [("take", 0), ("take", 2), ("take", 5), ("take", 6)]
        for thing in range(-1, 6):
            self.wrong(("stuck", thing), deeds)
            self.wrong(("split", thing, []), deeds)


class TablesAndRooms(unittest.TestCase):
    def test_a_tree_of_the_table_that_is_none_of_the_room(self):
        table = (2, 0, [[(0, 0)], [(0, 0)]])
        tree = ("split", 0, [(0, ("stuck", 1)), (1, ("stuck", 1))])
        self.assertIs(Barred(tree).shows(table), True)
        self.assertIs(made(table, []).bars(tree), True)
        for deed in ("take", "bar"):
            self.assertIs(made(table, [(deed, 0)]).bars(tree), False)
        self.assertIs(made(table, [("take", 0)]).bars(("stuck", 1)), True)
        self.assertIs(made(table, [("bar", 0)]).bars(("split", 0, [(1, ("stuck", 1))])), True)

    def test_a_tree_of_the_room_that_is_none_of_the_table(self):
        for tree, deeds in ((TREE, DEEDS), (("stuck", 2), [("take", 1)]), (("stuck", 3), [("bar", 6), ("bar", 7)])):
            self.assertIs(made(TABLE, deeds).bars(tree), True)
            self.assertIs(Barred(tree).shows(TABLE), False)
            self.assertIs(made(TABLE, []).bars(tree), False)

    def test_a_room_without_deeds_is_as_its_table(self):
        chance = random.Random("no deeds")
        for table in some_tables(150, "no deeds"):
            if not covers_of(table):
                tree = some_tree(table, chance)
                for turn in range(5):
                    self.assertIs(Room(table).bars(tree), Barred(tree).shows(table))
                    tree = changed(tree, table, chance)


class ByChance(unittest.TestCase):
    def played(self, table, chance):
        """A room behind some deeds by chance."""
        room = Room(table)
        for turn in range(chance.randint(0, 4)):
            if room.open_choices():
                chance.choice([room.take, room.bar, room.bar])(chance.choice(room.open_choices()))
        return room

    def test_trees_of_rooms_and_changed_ones(self):
        chance = random.Random("room trees")
        seen = {True: 0, False: 0}
        for table in some_tables(400, "room trees"):
            room = self.played(table, chance)
            taken, barred = tuple(room.taken()), [choice for word, choice in room.deeds() if word == "bar"]
            if not covers_of(table, taken, barred):
                tree = some_tree(table, chance, taken, barred)
                self.assertIs(room.bars(tree), True)
                for turn in range(15):
                    other = changed(tree, table, chance)
                    right = holds(table, other, taken, barred)
                    seen[right] += 1
                    self.assertIs(room.bars(other), right, (table, room.deeds(), other))
        self.assertGreater(min(seen.values()), 100)


class Asking(unittest.TestCase):
    def test_the_tree_and_the_room_stay(self):
        for tree in (TREE, ("split", 0, TREE[2][::-1])):
            handed, room = copy.deepcopy(tree), made(TABLE, DEEDS)
            room.bars(handed)
            self.assertEqual(handed, tree)
            self.assertEqual((room.deeds(), room.open_choices()), (DEEDS, [0, 1, 2, 3, 4, 6, 7]))

    def test_the_tree_is_not_kept(self):
        tree, room = copy.deepcopy(TREE), made(TABLE, DEEDS)
        self.assertIs(room.bars(tree), True)
        inner = tree[2][1][1][2]
        kept = inner.pop()
        self.assertIs(room.bars(tree), False)
        inner.append(kept)
        self.assertIs(room.bars(tree), True)


class GreatTrees(unittest.TestCase):
    """Ten thousand nodes; nothing here compares or prints a whole tree, as Python itself does not go so deep."""

    def test_one_within_the_other(self):
        for thing_at in (lambda depth: 0, lambda depth: depth, lambda depth: -depth, lambda depth: depth % 2):
            tree, lists = chain(9999, thing_at)
            for table in ((1, 0, []), (1, 0, [[(0, 0)]]), (10, 0, [[(thing, 0)] for thing in range(9)])):
                for deed in ("take", "bar"):
                    self.assertIs(made(table, [(deed, choice) for choice in range(len(table[2]))]).bars(tree), False)
                self.assertIs(Room(table).bars(tree), False)

    def test_at_one_place_of_a_right_tree(self):
        tree, lists = chain(9000, lambda depth: 2)
        for at in range(2):
            branches = list(TREE[2])
            branches[at] = (at, tree)
            self.assertIs(made(TABLE, DEEDS).bars(("split", 0, branches)), False)

    def test_many_pairs(self):
        end = ("stuck", 2)
        room = made(TABLE, [("take", 1)])
        self.assertIs(room.bars(("split", 1, [(3, end)])), True)
        self.assertIs(room.bars(("split", 1, [(3, end)] * 9999)), False)
        self.assertIs(room.bars(("split", 1, [(choice, end) for choice in range(9999)])), False)

    def test_one_tree_in_several_places(self):
        tree = ("stuck", 0)
        for depth in range(12):
            tree = ("split", depth, [(0, tree), (1, tree)])
        self.assertIs(made(TABLE, DEEDS).bars(tree), False)


if __name__ == "__main__":
    unittest.main()
