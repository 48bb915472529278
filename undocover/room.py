"""Rooms: a table in which choices are taken and barred, one by one, and the last deed is undone."""

from undocover.answers import copied, is_tree
from undocover.errors import Closed, Nothing
from undocover.finding import covers_from, found_from
from undocover.tables import bare_things, check_choice, check_table, unclashed

TAKE = "take"
BAR = "bar"


class Room:
    """A table and the deeds done in it.

    Only the deeds are kept, and what is open is told from them: so the room is, a deed undone, as it was ahead of it.
    """

    def __init__(self, table):
        check_table(table)
        self.table = copied(table)
        self.done = []

    def take(self, choice):
        """Take an open choice."""
        self.do(TAKE, choice)

    def bar(self, choice):
        """Bar an open choice."""
        self.do(BAR, choice)

    def do(self, word, choice):
        """Do a deed to an open choice."""
        check_choice(self.table, choice)
        if choice not in self.open_choices():
            raise Closed("this choice is not open")
        self.done.append((word, choice))

    def undo(self):
        """Undo the last deed, and tell it."""
        if len(self.done) == 0:
            raise Nothing("no deed is left")
        return self.done.pop()

    def open_things(self):
        """The main things that no taken choice has, rising."""
        return bare_things(self.table, self.taken())

    def open_choices(self):
        """The choices that are not barred and clash with none taken, rising."""
        barred = self.chosen(BAR)
        return [choice for choice in unclashed(self.table, self.taken()) if choice not in barred]

    def taken(self):
        """The taken choices, in turn."""
        return self.chosen(TAKE)

    def chosen(self, word):
        """The choices of all deeds of one kind, in turn."""
        return [choice for its_word, choice in self.done if its_word == word]

    def deeds(self):
        """All deeds, in turn: pairs of a word and a choice."""
        return list(self.done)

    def found(self):
        """The first cover of the room, a Cover, or a Barred with a tree of the room where there is none."""
        return found_from(self.table, self.taken(), self.open_choices())

    def how_many(self):
        """How many covers the room has."""
        return len(covers_from(self.table, self.taken(), self.open_choices()))

    def bars(self, tree):
        """Whether it is a tree of the room."""
        return is_tree(self.table, self.taken(), self.open_choices(), tree)
