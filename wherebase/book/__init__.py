"""Books of tables and rules, with versions."""
