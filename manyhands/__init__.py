"""Manyhands: a shared outline that many write at once."""
