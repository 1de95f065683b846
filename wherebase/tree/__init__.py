"""Boxes with integers as ends, and trees of them."""
