"""A desk for schemes and lots."""
