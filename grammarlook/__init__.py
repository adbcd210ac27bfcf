"""A grammar looked at, and texts taken by it one token at a time."""
