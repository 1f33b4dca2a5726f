"""Closed sets of kinds."""
