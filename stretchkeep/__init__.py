"""Stretchkeep: which lists to keep for told questions."""
