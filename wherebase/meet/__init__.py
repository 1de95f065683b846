"""Meets and relations of shapes."""
