"""Rules about the rows of tables, and what shows that they are broken."""
