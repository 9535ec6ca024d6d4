"""Likeness: states that behave alike."""
