"""Wherebase: a database of exact shapes in the plane."""
