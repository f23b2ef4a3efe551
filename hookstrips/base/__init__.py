"""Integers, list texts and polynomials."""
