"""Bounds on hook differences, sums that count bounded rows, and recursions."""
