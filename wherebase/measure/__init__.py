"""Areas, distances, hulls and other measures of shapes."""
