"""Taflhall: the moves of a position by a hall's rules."""
