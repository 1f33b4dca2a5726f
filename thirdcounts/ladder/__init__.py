"""Ladders of kinds and of eigenspaces."""
