"""Letters that are written upon one another."""
