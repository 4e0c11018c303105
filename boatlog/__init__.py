"""A log of boats on the water."""
