"""A tree worked out by several workers who send each other outcomes."""
