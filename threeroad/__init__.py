"""Threeroad: trees of files that part and join."""
