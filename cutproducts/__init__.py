"""Cuts multiplied: the cuts of a small shape, and what they are worth by twos."""
