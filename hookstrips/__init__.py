"""Hookstrips: falling rows, hook differences between two bounds, and one word for each row."""
