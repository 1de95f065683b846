"""Invertible maps of the plane."""
