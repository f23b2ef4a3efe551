"""Lots of rows that look unlike each other, one to one."""
