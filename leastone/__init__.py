"""Least machines, and words that test them."""
