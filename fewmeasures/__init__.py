"""The best by several measures: by some of them, within bounds, together."""
