"""Shapes and what is put together of them."""
