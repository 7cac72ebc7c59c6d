"""Namedabove: when readers of letters lose one another."""
