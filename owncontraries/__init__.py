"""Rooms of words that are their own contrary."""
