"""Rubbling: pebbling moves from two neighbours."""
