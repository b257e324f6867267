"""Ringcrown: the greatest of a ring, found by letters."""
