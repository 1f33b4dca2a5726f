"""Moves of points, and groups."""
