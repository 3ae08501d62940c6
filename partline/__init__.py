"""Partline: texts told by the figures of one number."""
