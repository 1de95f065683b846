"""Strings that tell shapes and tables."""
