"""Closedrings: rings through all places, where ties are many."""
