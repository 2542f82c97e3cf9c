"""Optimal pebbling and cover pebbling on small graphs."""
