"""Tables of rows, and conditions about them."""
