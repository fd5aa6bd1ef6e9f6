"""Least-cost blending with bounds on the mean property."""
