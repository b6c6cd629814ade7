"""Robots on a ring that see, go by one rule, and are to gather."""
