"""Ideals of rings of whole algebraic numbers, each told by its rows."""
