"""Posts in the order in which they came about."""
