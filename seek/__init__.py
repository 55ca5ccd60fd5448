"""Seek: the first way of a pattern, and all the others behind it."""
