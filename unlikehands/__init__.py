"""Unlikehands: is there anybody for every step, and if not, why not."""
