"""Chains of marked pieces: all ways to lay the pieces of a broken stone border in one chain."""
