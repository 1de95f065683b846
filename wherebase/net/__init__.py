"""Nets of lines, and layers of shapes."""
