"""Lettertrees: routines that keep words by their letters in a tree."""
