"""Years told by names: which years entries can have been, and in how many ways that can be read."""
