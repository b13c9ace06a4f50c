"""Great numbers as keys."""
