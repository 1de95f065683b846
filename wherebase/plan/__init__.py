"""Questions about tables, and the plans that answer them."""
