"""Webs of two kinds."""
