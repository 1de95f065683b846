"""Names, fractions, points and straight pieces."""
