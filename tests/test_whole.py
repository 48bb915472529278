"""What the document promises over the whole program: at every function, class and method that its interface lists."""

import copy
import importlib
import inspect
import unittest

from tests.helper import done, lists_in
from undocover import errors
from undocover.answers import Answer, Barred, Best, Cover
from undocover.errors import BadBars, BadChoice, BadNumber, BadOrder, BadPrices, BadTable, Closed, NoCover, Nothing
from undocover.errors import CoverError, TooGreat
from undocover.finding import sought
from undocover.joining import put_beside, rearranged, renamed, without
from undocover.parts import forced, idle, part_table, parts, uses
from undocover.prices import cheapest
from undocover.ranks import all_covers, by_number, how_many, next_one, number_of
from undocover.room import Room
from undocover.strips import laying, layings, number_in, strip_table
from undocover.tables import bare, clash, going

FUNCTIONS = {
    "tables": {"clash": "table one other", "going": "table choices", "bare": "table choices"},
    "finding": {"sought": "table"},
    "ranks": {"all_covers": "table", "how_many": "table", "by_number": "table number", "number_of": "table cover",
              "next_one": "table cover"},
    "parts": {"parts": "table", "part_table": "table number", "uses": "table", "idle": "table", "forced": "table"},
    "joining": {"put_beside": "one other", "without": "table choice", "renamed": "table order",
                "rearranged": "table order"},
    "prices": {"cheapest": "table prices"},
    "strips": {"layings": "bars places", "laying": "bars places number", "number_in": "bars places some",
               "strip_table": "bars places"},
}
METHODS = {
    Cover: {"__init__": "choices", "shows": "table"},
    Barred: {"__init__": "tree", "shows": "table"},
    Best: {"__init__": "choices price"},
    Room: {"__init__": "table", "take": "choice", "bar": "choice", "undo": "", "open_things": "", "open_choices": "",
           "taken": "", "deeds": "", "found": "", "how_many": "", "bars": "tree"},
}
# Its covers are [0, 1], [0, 4], [2, 3] and [2, 6].
MANY = (3, 1, [
    [(0, 0), (3, 1)],
    [(1, 0), (2, 0), (3, 1)],
    [(0, 0), (1, 0)],
    [(2, 0), (3, 0)],
    [(1, 0), (2, 0)],
    [(1, 0), (3, 2)],
    [(2, 0), (3, 1)],
])
ONE = (2, 0, [[(0, 0)], [(1, 0)]])
BARRED = (2, 1, [[(0, 0), (2, 1)], [(1, 0), (2, 5)]])
TREE = ("split", 0, [(0, ("stuck", 1))])
DEEDS = [("bar", 1), ("take", 0)]
SAME = [(0, 0), (1, 1)]
# One list stands in it three times.
SHARED = (1, 1, [SAME, SAME, SAME])
EMPTY = (1, 0, [])
WRONG = (2, 0, [[(1, 0), (0, 0)]])
GREAT = (10, 6, [[(0, 0)]] * 16)


def in_room(ask, deeds=()):
    """Asks a room that is made of the table and in which these deeds are done."""
    return lambda table, *more: ask(done(Room(table), deeds), *more)


def answer_asked(made, *fields):
    return lambda table: made(*fields).shows(table)


# Each: what is asked, with what, and the kind of what is told.
ASKS = [
    (clash, (MANY, 0, 1), bool), (clash, (MANY, 0, 2), bool), (clash, (SHARED, 0, 0), bool),
    (going, (MANY, [0, 1]), bool), (going, (MANY, [0, 2]), bool), (going, (MANY, []), bool),
    (bare, (MANY, [0]), list), (bare, (MANY, []), list), (bare, (MANY, [0, 1]), list), (bare, (EMPTY, []), list),
    (Cover, ([0, 1],), Cover), (Barred, (TREE,), Barred), (Best, ([0, 1], 7), Best), (Best, ([], 0), Best),
    (answer_asked(Cover, [0, 1]), (MANY,), bool), (answer_asked(Cover, [0]), (MANY,), bool),
    (answer_asked(Barred, TREE), (BARRED,), bool), (answer_asked(Barred, TREE), (MANY,), bool),
    (sought, (MANY,), Cover), (sought, (ONE,), Cover), (sought, (BARRED,), Barred), (sought, (EMPTY,), Barred),
    (Room, (MANY,), Room), (Room, (SHARED,), Room), (Room, (EMPTY,), Room),
    (in_room(Room.take), (MANY, 0), None), (in_room(Room.bar), (MANY, 1), None),
    (in_room(Room.undo, DEEDS), (MANY,), tuple),
    (in_room(Room.open_things), (MANY,), list), (in_room(Room.open_things, DEEDS), (MANY,), list),
    (in_room(Room.open_choices), (MANY,), list), (in_room(Room.open_choices, DEEDS), (MANY,), list),
    (in_room(Room.taken), (MANY,), list), (in_room(Room.taken, DEEDS), (MANY,), list),
    (in_room(Room.deeds), (MANY,), list), (in_room(Room.deeds, DEEDS), (MANY,), list),
    (in_room(Room.found, DEEDS), (MANY,), Cover), (in_room(Room.found, [("bar", 0)]), (BARRED,), Barred),
    (in_room(Room.how_many), (MANY,), int), (in_room(Room.how_many, DEEDS), (MANY,), int),
    (in_room(Room.how_many), (BARRED,), int),
    (in_room(Room.bars), (BARRED, TREE), bool), (in_room(Room.bars, [("take", 0)]), (BARRED, ("stuck", 1)), bool),
    (in_room(Room.bars), (MANY, TREE), bool),
    (all_covers, (MANY,), list), (all_covers, (BARRED,), list), (all_covers, (SHARED,), list),
    (how_many, (MANY,), int), (how_many, (ONE,), int), (how_many, (BARRED,), int),
    (by_number, (MANY, 0), list), (by_number, (MANY, 3), list), (by_number, (ONE, 0), list),
    (number_of, (MANY, [0, 1]), int), (number_of, (MANY, [0, 4]), int), (number_of, (ONE, [0, 1]), int),
    (next_one, (MANY, [0, 1]), list), (next_one, (MANY, [2, 6]), None),
    (parts, (MANY,), list), (parts, (ONE,), list), (parts, (EMPTY,), list),
    (part_table, (ONE, 1), tuple), (part_table, (MANY, 0), tuple), (part_table, (SHARED, 0), tuple),
    (part_table, (EMPTY, 0), tuple),
    (uses, (MANY,), list), (uses, (ONE,), list), (uses, (BARRED,), list), (uses, (EMPTY,), list),
    (idle, (MANY,), list), (idle, (BARRED,), list), (idle, (ONE,), list),
    (forced, (MANY,), list), (forced, (ONE,), list),
    (put_beside, (MANY, ONE), tuple), (put_beside, (SHARED, SHARED), tuple), (put_beside, (EMPTY, BARRED), tuple),
    (without, (MANY, 3), tuple), (without, (SHARED, 1), tuple), (without, (ONE, 0), tuple),
    (renamed, (MANY, [2, 0, 1]), tuple), (renamed, (SHARED, [0]), tuple), (renamed, (EMPTY, [0]), tuple),
    (rearranged, (MANY, [6, 5, 4, 3, 2, 1, 0]), tuple), (rearranged, (SHARED, [1, 2, 0]), tuple),
    (rearranged, (EMPTY, []), tuple), (rearranged, (ONE, [0, 1]), tuple),
    (cheapest, (MANY, [3, 1, 2, 2, 2, 2, 0]), Best), (cheapest, (ONE, [0, 0]), Best), (cheapest, (ONE, [0, 1]), Best),
    (cheapest, (BARRED, [1, 1]), Barred), (cheapest, (EMPTY, []), Barred),
    (layings, ([1, 2], 5), int), (layings, ([1], 1), int), (layings, ([2], 1), int), (layings, ([3], 0), int),
    (laying, ([1, 2], 5, 3), list), (laying, ([1], 0, 0), list), (laying, ([1], 1, 0), list),
    (number_in, ([1, 2], 5, [0, 1, 1]), int), (number_in, ([1, 1], 1, [1]), int), (number_in, ([1], 0, []), int),
    (strip_table, ([2, 1], 3), tuple), (strip_table, ([1, 1], 1), tuple), (strip_table, ([9], 2), tuple),
]
# Each is refused for one reason, or for several, of which the first goes first.
REFUSED = [
    (clash, (WRONG, 9, None), BadTable), (clash, (ONE, 2, 0), BadChoice), (clash, (ONE, 0, True), BadChoice),
    (going, (None, [1, 0]), BadTable), (going, (ONE, [1, 0]), BadChoice),
    (bare, ([], [0, 0]), BadTable), (bare, (ONE, [0, 0]), BadChoice),
    (sought, (WRONG,), BadTable), (Room, (WRONG,), BadTable),
    (in_room(Room.take, DEEDS), (MANY, 7), BadChoice), (in_room(Room.take, DEEDS), (MANY, False), BadChoice),
    (in_room(Room.take, DEEDS), (MANY, 1), Closed), (in_room(Room.take, DEEDS), (MANY, 2), Closed),
    (in_room(Room.bar, DEEDS), (MANY, -1), BadChoice), (in_room(Room.bar, DEEDS), (MANY, 0), Closed),
    (in_room(Room.undo), (MANY,), Nothing),
    (all_covers, (WRONG,), BadTable), (how_many, (WRONG,), BadTable),
    (by_number, (WRONG, None), BadTable), (by_number, (ONE, 1), BadNumber), (by_number, (ONE, False), BadNumber),
    (number_of, (WRONG, None), BadTable), (number_of, (ONE, [1, 0]), BadChoice), (number_of, (ONE, [1]), NoCover),
    (next_one, (WRONG, None), BadTable), (next_one, (ONE, [0, 2]), BadChoice), (next_one, (ONE, []), NoCover),
    (parts, (WRONG,), BadTable), (part_table, (WRONG, 9), BadTable), (part_table, (ONE, 2), BadNumber),
    (part_table, (ONE, True), BadNumber), (uses, (WRONG,), BadTable), (idle, (WRONG,), BadTable),
    (forced, (WRONG,), BadTable), (forced, (BARRED,), NoCover),
    (put_beside, (WRONG, GREAT), BadTable), (put_beside, (GREAT, WRONG), BadTable),
    (put_beside, (GREAT, ONE), TooGreat),
    (without, (WRONG, 9), BadTable), (without, (ONE, 2), BadChoice),
    (renamed, (WRONG, None), BadTable), (renamed, (ONE, [1, 1]), BadOrder),
    (rearranged, (WRONG, None), BadTable), (rearranged, (ONE, [False, True]), BadOrder),
    (cheapest, (WRONG, None), BadTable), (cheapest, (BARRED, [1]), BadPrices), (cheapest, (ONE, [1, True]), BadPrices),
    (layings, ([0], -1), BadBars), (layings, ([1], 301), BadNumber), (layings, ([1], True), BadNumber),
    (laying, ([0], -1, None), BadBars), (laying, ([1], -1, None), BadNumber), (laying, ([1], 1, 1), BadNumber),
    (number_in, ([0], -1, None), BadBars), (number_in, ([1], -1, None), BadNumber), (number_in, ([1], 1, [1]), BadBars),
    (number_in, ([1], 1, []), BadBars),
    (strip_table, ([0], 301), BadBars), (strip_table, ([1], 301), BadNumber), (strip_table, ([1], 11), TooGreat),
    (strip_table, ([1], 0), TooGreat), (strip_table, ([1, 1], 9), TooGreat),
]


def within(told):
    """What is told, an object by its fields."""
    return vars(told) if isinstance(told, (Answer, Room)) else told


def values_in(value):
    """What is told and all that stands within it."""
    if isinstance(value, dict):
        return [some for inner in value.values() for some in values_in(inner)]
    inner = [some for part in value for some in values_in(part)] if isinstance(value, (list, tuple)) else []
    return [value, *inner]


def lists_told(told):
    return [value for value in values_in(within(told)) if isinstance(value, list)]


def spoil(lists):
    for some in lists:
        some.append("spoilt")
        some.reverse()


class Interface(unittest.TestCase):
    def test_functions(self):
        for file, functions in FUNCTIONS.items():
            module = importlib.import_module(f"undocover.{file}")
            for name, parameters in functions.items():
                with self.subTest(file, name=name):
                    self.assertEqual(list(inspect.signature(getattr(module, name)).parameters), parameters.split())

    def test_methods_stand_in_their_classes(self):
        for kind, methods in METHODS.items():
            for name, parameters in methods.items():
                with self.subTest(kind.__name__, name=name):
                    told = list(inspect.signature(vars(kind)[name]).parameters)
                    self.assertEqual(told[1:], parameters.split())

    def test_every_function_is_asked_here(self):
        asked = {ask for ask, handed, kind in ASKS}
        for file, functions in FUNCTIONS.items():
            module = importlib.import_module(f"undocover.{file}")
            self.assertLessEqual({getattr(module, name) for name in functions}, asked)


class Told(unittest.TestCase):
    def each(self, check):
        """Each ask with what is handed in made anew, one list in several places still one list."""
        for ask, handed, kind in ASKS:
            with self.subTest(handed=handed, kind=kind):
                check(ask, copy.deepcopy(handed), kind)

    def test_kinds(self):
        def check(ask, handed, kind):
            told = ask(*handed)
            self.assertIs(told.__class__, kind or None.__class__)
            kinds = (bool,) if kind is bool else (int, str, list, tuple, None.__class__)
            self.assertLessEqual({value.__class__ for value in values_in(within(told))}, set(kinds))
        self.each(check)

    def test_what_is_handed_in_stays(self):
        def check(ask, handed, kind):
            lists = [(some, list(some)) for some in lists_in(handed)]
            before = repr(handed)
            ask(*handed)
            self.assertEqual(repr(handed), before)
            for some, its_parts in lists:
                self.assertEqual([id(part) for part in some], [id(part) for part in its_parts])
        self.each(check)

    def test_what_is_handed_in_stays_where_it_is_refused(self):
        for ask, handed, error in REFUSED:
            mine = copy.deepcopy(handed)
            with self.subTest(handed=handed), self.assertRaises(error):
                ask(*mine)
            self.assertEqual(repr(mine), repr(handed))

    def test_what_is_told_is_new(self):
        def check(ask, handed, kind):
            lists = [id(some) for some in lists_told([within(ask(*handed)), within(ask(*handed))])]
            self.assertEqual(len(set(lists)), len(lists))
            self.assertEqual(set(lists) & {id(some) for some in lists_in(handed)}, set())
        self.each(check)

    def test_told_lists_may_be_changed_and_asked_again(self):
        def check(ask, handed, kind):
            told = ask(*handed)
            before = repr(within(told))
            spoil(lists_told(told))
            self.assertEqual(repr(within(ask(*handed))), before)
        self.each(check)

    def test_what_is_handed_in_is_not_kept(self):
        def check(ask, handed, kind):
            told = ask(*handed)
            before = repr(within(told))
            spoil(lists_in(handed))
            self.assertEqual(repr(within(told)), before)
        self.each(check)

    def test_told_tables_are_tables(self):
        def check(ask, handed, kind):
            if ask in (part_table, put_beside, without, renamed, rearranged, strip_table):
                told = ask(*handed)[0] if ask is part_table else ask(*handed)
                self.assertEqual(bare(told, []), list(range(told[0])))
                self.assertIs(sought(told).shows(told), True)
        self.each(check)

    def test_rooms_in_the_midst_of_deeds(self):
        """What a room tells may be changed; what it was made of, too."""
        table = copy.deepcopy(MANY)
        room = done(Room(table), DEEDS)
        spoil(lists_in(table))
        tells = [room.open_things, room.open_choices, room.taken, room.deeds, room.found]
        before = [repr(within(tell())) for tell in tells]
        for tell in tells:
            spoil(lists_told(tell()))
        self.assertEqual([repr(within(tell())) for tell in tells], before)
        self.assertEqual((room.deeds(), room.how_many(), room.found().choices), (DEEDS, 1, [0, 4]))


class Refused(unittest.TestCase):
    def test_by_its_class_alone_and_in_turn(self):
        for ask, handed, error in REFUSED:
            with self.subTest(error.__name__, handed=handed):
                with self.assertRaises(ValueError) as caught:
                    ask(*handed)
                self.assertIs(caught.exception.__class__, error)
                self.assertEqual(error.__mro__[1:3], (CoverError, ValueError))

    def test_every_refusal_is_asked_here(self):
        told = {kind for kind in vars(errors).values() if isinstance(kind, type) and kind is not CoverError}
        self.assertEqual({error for ask, handed, error in REFUSED}, told)

    def test_a_room_is_as_it_was_behind_a_refusal(self):
        room = done(Room(MANY), DEEDS)
        before = copy.deepcopy(vars(room))
        for ask, choice in ((room.take, 1), (room.bar, 0), (room.take, 7), (room.bar, None)):
            with self.assertRaises(CoverError):
                ask(choice)
            self.assertEqual(vars(room), before)
        fresh = Room(MANY)
        with self.assertRaises(Nothing):
            fresh.undo()
        self.assertEqual((fresh.deeds(), fresh.how_many()), ([], 4))


if __name__ == "__main__":
    unittest.main()
