"""Sweetsring: sweets that are passed round in a ring of children."""
