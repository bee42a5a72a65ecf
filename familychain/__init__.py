"""A family of words as a chain of places, in exact fractions."""
