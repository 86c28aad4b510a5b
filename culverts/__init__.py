"""Culverts: where the water of a road's low stretches can go under it."""
