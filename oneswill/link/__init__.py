"""Links between answers."""
