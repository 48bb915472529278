"""Undocover: things covered each just once by choices, or a tree of cases that bars it."""
