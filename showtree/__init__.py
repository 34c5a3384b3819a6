"""Showtree: statements that are shown, or fail in a tree of worlds."""
