"""Wholeline: a line whose parts meet."""
