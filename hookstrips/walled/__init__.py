"""Walks between two walls."""
