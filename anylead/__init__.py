"""Anylead: games with one endless count, for all counts."""
