"""Lots of points."""
