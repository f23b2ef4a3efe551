"""Rows and what is told of their squares."""
