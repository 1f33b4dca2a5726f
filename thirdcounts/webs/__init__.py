"""Webs of points and ties."""
