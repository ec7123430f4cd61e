"""Strongway: who is chosen by the strongest ways of likings."""
