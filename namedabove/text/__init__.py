"""Texts of what the package knows, and what texts say."""
