"""Exact numbers, tables of numbers, and polynomials."""
