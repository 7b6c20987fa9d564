"""Wholedrops: rows of pourings, for every amount."""
