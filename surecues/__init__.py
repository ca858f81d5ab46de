"""Surecues: exact motions on a stage, and moments that are not yet known."""
