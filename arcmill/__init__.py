"""Arcmill: exact pictures of stretches and arcs, also without end."""
