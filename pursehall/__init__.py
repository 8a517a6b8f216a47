"""Pursehall: costs shared over rows of deeds."""
