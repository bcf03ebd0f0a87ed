"""Rungrepeats: rungs that repeat, on any number of posts."""
