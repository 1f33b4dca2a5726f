"""Schemes of points, and the counts that they have."""
