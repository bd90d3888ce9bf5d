"""Webreckon: one web of places and ties, reckoned in many ways that meet."""
