"""Axisbook: programs of equations over arrays of whole numbers."""
