"""The states of letters, and what ways through them tell."""
