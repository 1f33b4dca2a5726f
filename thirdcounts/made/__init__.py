"""Schemes made of schemes."""
