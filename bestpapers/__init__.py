"""Bestpapers: an exact optimiser whose every answer comes with a paper."""
