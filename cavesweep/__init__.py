"""Cavesweep: searchers in a cave."""
