import copy
import random
import unittest

from tests.helper import (OTHER_KINDS, bare_by, covers_of, done, great_tables, holds, lists_in, open_by, own_things,
                          some_tables)
from undocover.answers import Barred, Cover
from undocover.errors import BadChoice, Closed, Nothing
from undocover.room import Room

# Its covers are [0, 1], [0, 4], [2, 3] and [2, 6].
TABLE = (3, 1, [
    [(0, 0), (3, 1)],
    [(1, 0), (2, 0), (3, 1)],
    [(0, 0), (1, 0)],
    [(2, 0), (3, 0)],
    [(1, 0), (2, 0)],
    [(1, 0), (3, 2)],
    [(2, 0), (3, 1)],
])
METHODS = ["take", "bar", "undo", "open_things", "open_choices", "taken", "deeds", "found", "how_many", "bars"]


def told(room):
    """All that a room tells, so that it can be compared."""
    answer = room.found()
    return (room.open_things(), room.open_choices(), room.taken(), room.deeds(), answer.__class__, vars(answer),
            room.how_many())


class Made(unittest.TestCase):
    def test_the_methods_stand_in_the_class_itself(self):
        for name in METHODS:
            self.assertIn(name, vars(Room))

    def test_a_new_room(self):
        room = Room(TABLE)
        self.assertEqual(room.open_things(), [0, 1, 2])
        self.assertEqual(room.open_choices(), [0, 1, 2, 3, 4, 5, 6])
        self.assertEqual((room.taken(), room.deeds(), room.how_many()), ([], [], 4))
        self.assertEqual(room.found().choices, [0, 1])

    def test_a_room_without_choices(self):
        room = Room((2, 1, []))
        self.assertEqual((room.open_things(), room.open_choices(), room.how_many()), ([0, 1], [], 0))
        self.assertIs(room.found().__class__, Barred)

    def test_by_names(self):
        room = Room(table=TABLE)
        room.take(choice=0)
        room.bar(choice=1)
        self.assertIs(room.bars(tree=("stuck", 1)), False)
        self.assertEqual(room.deeds(), [("take", 0), ("bar", 1)])

    def test_the_table_changed_afterwards_at_every_depth(self):
        for deeds in ([], [("take", 0)], [("bar", 0), ("take", 2)]):
            right = told(done(Room(TABLE), deeds))
            for at in range(len(lists_in(TABLE))):
                table = copy.deepcopy(TABLE)
                early, late = done(Room(table), deeds), Room(table)
                lists_in(table)[at].clear()
                self.assertEqual(told(early), right)
                self.assertEqual(told(done(late, deeds)), right)

    def test_more_put_into_the_table_afterwards(self):
        table = copy.deepcopy(TABLE)
        room = Room(table)
        table[2][2].append((2, 0))
        table[2].append([(0, 0), (1, 0), (2, 0)])
        self.assertEqual(told(room), told(Room(TABLE)))
        with self.assertRaises(BadChoice):
            room.take(7)

    def test_one_list_at_several_places_of_the_table(self):
        row = [(0, 0)]
        room = Room((1, 0, [row, row]))
        row.clear()
        room.take(1)
        self.assertEqual((room.open_things(), room.open_choices()), ([], []))

    def test_the_table_stays(self):
        table = copy.deepcopy(TABLE)
        room = done(Room(table), [("take", 0), ("bar", 1)])
        told(room)
        room.bars(("stuck", 1))
        room.undo()
        self.assertEqual(table, TABLE)

    def test_two_rooms_of_one_table(self):
        one, other = Room(TABLE), Room(TABLE)
        one.take(0)
        self.assertEqual(told(other), told(Room(TABLE)))
        other.bar(1)
        other.take(2)
        self.assertEqual(told(one), told(done(Room(TABLE), [("take", 0)])))
        one.undo()
        self.assertEqual(other.deeds(), [("bar", 1), ("take", 2)])
        self.assertEqual(told(one), told(Room(TABLE)))


class Deeds(unittest.TestCase):
    def test_take(self):
        room = Room(TABLE)
        self.assertIsNone(room.take(0))
        self.assertEqual((room.open_things(), room.open_choices()), ([1, 2], [1, 4, 6]))
        self.assertEqual((room.taken(), room.deeds()), ([0], [("take", 0)]))
        self.assertIsNone(room.take(4))
        self.assertEqual((room.open_things(), room.open_choices()), ([], []))
        self.assertEqual((room.taken(), room.deeds()), ([0, 4], [("take", 0), ("take", 4)]))

    def test_bar(self):
        room = Room(TABLE)
        self.assertIsNone(room.bar(5))
        self.assertEqual((room.open_things(), room.open_choices()), ([0, 1, 2], [0, 1, 2, 3, 4, 6]))
        self.assertIsNone(room.bar(0))
        self.assertEqual((room.open_things(), room.open_choices()), ([0, 1, 2], [1, 2, 3, 4, 6]))
        self.assertEqual((room.taken(), room.deeds()), ([], [("bar", 5), ("bar", 0)]))

    def test_taken_and_deeds_are_told_in_turn(self):
        room = done(Room(TABLE), [("bar", 5), ("take", 6), ("bar", 0), ("take", 2)])
        self.assertEqual(room.taken(), [6, 2])
        self.assertEqual(room.deeds(), [("bar", 5), ("take", 6), ("bar", 0), ("take", 2)])
        for deed in room.deeds():
            self.assertIs(deed.__class__, tuple)

    def test_a_thing_beside_closes_choices_by_its_colour(self):
        table = (3, 1, [[(0, 0), (3, 1)], [(1, 0), (3, 1)], [(1, 0), (3, 2)], [(1, 0), (3, 0)], [(2, 0), (3, 0)]])
        room = Room(table)
        room.take(0)
        self.assertEqual(room.open_choices(), [1])
        room = Room(table)
        room.take(4)
        self.assertEqual(room.open_choices(), [])
        self.assertEqual(room.open_things(), [0, 1])

    def test_all_barred(self):
        room = Room(TABLE)
        for choice in (6, 0, 3, 1, 2, 5, 4):
            room.bar(choice)
        self.assertEqual((room.open_things(), room.open_choices(), room.how_many()), ([0, 1, 2], [], 0))

    def test_a_choice_taken_though_one_alike_is_barred(self):
        room = Room((1, 0, [[(0, 0)], [(0, 0)]]))
        room.bar(0)
        room.take(1)
        self.assertEqual((room.taken(), room.open_choices(), room.found().choices), ([1], [], [1]))


class Refused(unittest.TestCase):
    def refused(self, room, choice, error):
        before = told(room)
        for deed in (room.take, room.bar):
            with self.subTest(choice=choice), self.assertRaises(error):
                deed(choice)
            self.assertEqual(told(room), before)

    def test_closed(self):
        """Taken, clashing with a taken one, barred."""
        room = done(Room(TABLE), [("take", 0), ("bar", 4)])
        for choice in (0, 2, 3, 5, 4):
            self.refused(room, choice, Closed)
        room = done(Room(TABLE), [("take", 0), ("take", 1)])
        for choice in range(7):
            self.refused(room, choice, Closed)

    def test_no_count_of_a_choice(self):
        for deeds in ([], [("take", 0), ("bar", 1)], [("take", 0), ("take", 1)]):
            room = done(Room(TABLE), deeds)
            for choice in (*OTHER_KINDS, 7, 8, -7, -2, (0, 1), "1", [1], room):
                self.refused(room, choice, BadChoice)

    def test_true_and_false_where_they_would_be_closed(self):
        room = done(Room(TABLE), [("take", 0), ("bar", 1)])
        self.refused(room, False, BadChoice)
        self.refused(room, True, BadChoice)

    def test_no_choices_at_all(self):
        for choice in (0, -1, 1):
            self.refused(Room((1, 0, [])), choice, BadChoice)

    def test_nothing_left_to_undo(self):
        room = Room(TABLE)
        for turn in range(2):
            with self.assertRaises(Nothing):
                room.undo()
            self.assertEqual(told(room), told(Room(TABLE)))
        room.take(0)
        room.undo()
        with self.assertRaises(Nothing):
            room.undo()
        self.assertEqual(told(room), told(Room(TABLE)))

    def test_a_refused_deed_is_none_to_undo(self):
        room = Room(TABLE)
        room.take(0)
        self.refused(room, 2, Closed)
        self.refused(room, 7, BadChoice)
        self.assertEqual(room.undo(), ("take", 0))
        with self.assertRaises(Nothing):
            room.undo()


class Undone(unittest.TestCase):
    def test_the_deed_is_told(self):
        room = done(Room(TABLE), [("take", 0), ("bar", 1)])
        for deed in (("bar", 1), ("take", 0)):
            undone = room.undo()
            self.assertEqual(undone, deed)
            self.assertIs(undone.__class__, tuple)

    def test_several_in_a_row(self):
        deeds = [("bar", 5), ("take", 6), ("bar", 0), ("take", 2)]
        room, states = Room(TABLE), []
        for deed in deeds:
            states.append(told(room))
            done(room, [deed])
        for deed in reversed(deeds):
            self.assertEqual(room.undo(), deed)
            self.assertEqual(told(room), states.pop())

    def test_a_bar_from_ahead_stays_when_a_take_is_undone(self):
        """Choice 2 is barred and clashes with the taken one; it stays closed when that is undone."""
        room = done(Room(TABLE), [("bar", 2), ("take", 0)])
        self.assertEqual(room.undo(), ("take", 0))
        self.assertEqual(room.open_choices(), [0, 1, 3, 4, 5, 6])
        with self.assertRaises(Closed):
            room.take(2)

    def test_a_choice_that_two_taken_ones_close(self):
        room = done(Room(TABLE), [("take", 0), ("take", 6)])
        self.assertNotIn(1, room.open_choices())
        self.assertNotIn(3, room.open_choices())
        room.undo()
        self.assertEqual(room.open_choices(), [1, 4, 6])

    def test_mixed_with_new_deeds(self):
        room = done(Room(TABLE), [("take", 0), ("bar", 1)])
        room.undo()
        room.take(1)
        self.assertEqual(room.deeds(), [("take", 0), ("take", 1)])
        room.undo()
        room.undo()
        done(room, [("bar", 0), ("take", 2)])
        self.assertEqual(told(room), told(done(Room(TABLE), [("bar", 0), ("take", 2)])))
        self.assertEqual([room.undo(), room.undo()], [("take", 2), ("bar", 0)])
        self.assertEqual(told(room), told(Room(TABLE)))


class ToldLists(unittest.TestCase):
    def test_they_may_be_changed(self):
        room = done(Room(TABLE), [("take", 0), ("bar", 1)])
        before = told(room)
        for ask in (room.open_things, room.open_choices, room.taken, room.deeds):
            some = ask()
            some.append(99)
            some.reverse()
            self.assertEqual(told(room), before)
            some.clear()
            self.assertEqual(told(room), before)
        self.assertEqual(room.undo(), ("bar", 1))

    def test_found_ones_too(self):
        for deeds in ([], [("take", 0)], [("bar", 0), ("bar", 2)], [("bar", 1), ("take", 0), ("bar", 4)]):
            room = done(Room(TABLE), deeds)
            before = told(room)
            first = room.found()
            for some in lists_in(tuple(vars(first).values())):
                some.clear()
            self.assertEqual(told(room), before)

    def test_lists_told_earlier_stay(self):
        room = Room(TABLE)
        lists = [room.open_things(), room.open_choices(), room.taken(), room.deeds()]
        room.take(0)
        self.assertEqual(lists, [[0, 1, 2], [0, 1, 2, 3, 4, 5, 6], [], []])
        lists = [room.open_things(), room.open_choices(), room.taken(), room.deeds()]
        room.undo()
        self.assertEqual(lists, [[1, 2], [1, 4, 6], [0], [("take", 0)]])


class RoomCovers(unittest.TestCase):
    def covered(self, deeds, choices, many, table=TABLE):
        room = done(Room(table), deeds)
        answer = room.found()
        self.assertIs(answer.__class__, Cover)
        self.assertEqual((answer.choices, room.how_many()), (choices, many))
        self.assertIs(answer.shows(table), True)

    def barred(self, deeds, table=TABLE):
        room = done(Room(table), deeds)
        answer = room.found()
        self.assertIs(answer.__class__, Barred)
        self.assertEqual(room.how_many(), 0)
        self.assertIs(room.bars(answer.tree), True)
        barred = [choice for word, choice in deeds if word == "bar"]
        self.assertTrue(holds(table, answer.tree, tuple(room.taken()), barred))
        return answer.tree

    def test_behind_takes(self):
        self.covered([("take", 0)], [0, 1], 2)
        self.covered([("take", 2)], [2, 3], 2)
        self.covered([("take", 6)], [2, 6], 1)
        self.covered([("take", 4)], [0, 4], 1)

    def test_behind_bars(self):
        self.covered([("bar", 1)], [0, 4], 3)
        self.covered([("bar", 0)], [2, 3], 2)
        self.covered([("bar", 3), ("bar", 1)], [0, 4], 2)
        self.covered([("bar", 5)], [0, 1], 4)

    def test_behind_both(self):
        self.covered([("take", 0), ("bar", 1)], [0, 4], 1)
        self.covered([("bar", 3), ("take", 2)], [2, 6], 1)

    def test_a_cover_rises_in_whatever_turn_its_choices_were_taken(self):
        self.covered([("take", 6), ("take", 2)], [2, 6], 1)
        self.covered([("take", 4), ("take", 0)], [0, 4], 1)
        self.covered([("take", 9), ("bar", 0)], [1, 9], 1, (2, 0, [[(0, 0)]] * 2 + [[(1, 0)]] * 8))

    def test_all_things_covered_by_the_taken_choices(self):
        self.covered([("take", 0), ("take", 1)], [0, 1], 1)
        self.covered([("bar", 0), ("take", 3), ("take", 2)], [2, 3], 1)
        self.covered([("take", 0)], [0], 1, (1, 0, [[(0, 0)]]))

    def test_none_left(self):
        self.barred([("take", 5)])
        self.barred([("bar", 0), ("bar", 2)])
        self.barred([("take", 0), ("bar", 1), ("bar", 4)])
        self.barred([("bar", 3), ("bar", 6), ("bar", 0)])

    def test_a_thing_that_no_open_choice_has(self):
        self.assertEqual(self.barred([("take", 1)], (2, 0, [[(0, 0)], [(0, 0), (1, 0)]][::-1])), ("stuck", 1))
        self.assertEqual(self.barred([("take", 0), ("take", 6)]), ("stuck", 1))
        self.assertEqual(self.barred([("bar", 0)], (1, 0, [[(0, 0)]])), ("stuck", 0))

    def test_behind_undos(self):
        room = done(Room(TABLE), [("bar", 0), ("bar", 2)])
        self.assertEqual((room.found().__class__, room.how_many()), (Barred, 0))
        room.undo()
        self.assertEqual((room.found().choices, room.how_many()), ([2, 3], 2))
        room.undo()
        self.assertEqual((room.found().choices, room.how_many()), ([0, 1], 4))
        room.take(2)
        room.bar(3)
        self.assertEqual((room.found().choices, room.how_many()), ([2, 6], 1))
        room.undo()
        self.assertEqual((room.found().choices, room.how_many()), ([2, 3], 2))

    def test_asking_changes_nothing(self):
        room = done(Room(TABLE), [("bar", 1)])
        before = told(room)
        self.assertEqual([told(room) for turn in range(3)], [before] * 3)

    def test_a_great_room(self):
        room = Room(own_things([3, 3, 3, 3, 2, 2]))
        self.assertEqual(room.how_many(), 324)
        room.take(15)
        self.assertEqual((room.how_many(), room.found().choices), (162, [0, 3, 6, 9, 12, 15]))
        room.bar(0)
        self.assertEqual((room.how_many(), room.found().choices), (108, [1, 3, 6, 9, 12, 15]))


class ByChance(unittest.TestCase):
    """Deeds by chance, each room asked behind each of them and compared with what the words of [7] and [8] say."""

    def agrees(self, table, room, deeds):
        taken = [choice for word, choice in deeds if word == "take"]
        barred = [choice for word, choice in deeds if word == "bar"]
        self.assertEqual(room.open_things(), bare_by(table, taken))
        self.assertEqual(room.open_choices(), open_by(table, taken, barred))
        self.assertEqual((room.taken(), room.deeds()), (taken, deeds))
        covers, answer = covers_of(table, taken, barred), room.found()
        self.assertEqual(room.how_many(), len(covers))
        if covers:
            self.assertEqual((answer.__class__, answer.choices), (Cover, covers[0]))
        else:
            self.assertIs(answer.__class__, Barred)
            self.assertTrue(holds(table, answer.tree, tuple(taken), barred))
            self.assertIs(room.bars(answer.tree), True)
        return bool(covers)

    def played(self, table, chance, turns):
        room, deeds, seen = Room(table), [], [0, 0]
        for turn in range(turns):
            if not room.open_choices() or chance.random() < 0.3:
                if deeds:
                    self.assertEqual(room.undo(), deeds.pop())
            else:
                deed = (chance.choice(["take", "bar", "bar"]), chance.choice(room.open_choices()))
                done(room, [deed])
                deeds.append(deed)
            seen[self.agrees(table, room, deeds)] += 1
        while deeds:
            self.assertEqual(room.undo(), deeds.pop())
            self.agrees(table, room, deeds)
        return seen

    def test_small_tables(self):
        chance = random.Random("rooms")
        seen = [self.played(table, chance, 15) for table in some_tables(150, "rooms")]
        self.assertGreater(min(map(sum, zip(*seen))), 100)

    def test_great_tables(self):
        chance = random.Random("great rooms")
        for table in great_tables(12, "great rooms"):
            self.played(table, chance, 15)


if __name__ == "__main__":
    unittest.main()
