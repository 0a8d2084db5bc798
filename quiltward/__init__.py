"""Quiltward: patches with labels as the unit of a version store."""
