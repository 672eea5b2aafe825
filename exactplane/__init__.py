"""Points of the plane with whole-number coordinates, and nothing but exact answers."""
