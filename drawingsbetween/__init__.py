"""Drawings between two others, and the ladders that say where they are."""
