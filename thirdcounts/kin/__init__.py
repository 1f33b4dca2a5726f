"""Families of schemes."""
