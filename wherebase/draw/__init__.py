"""Drawings of shapes."""
