"""Spawn in a bed: when each cell of a bed is run through."""
