"""Forces: locks, swells, and the best of them."""
