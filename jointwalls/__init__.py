"""Masonry walls without aligned joints: rows of stones, and how they may lie on each other."""
