"""Daycubes: cubes with figures on their faces that show numbers."""
