"""Keysfelt: keys on a ring, found by feel."""
