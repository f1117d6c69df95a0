"""Mended: a plan under way, what happens to it, and whether the rest of it still does."""
