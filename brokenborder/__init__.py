"""Chains of marked pieces: the ways to lay all pieces of a broken border in a chain or a circuit."""
