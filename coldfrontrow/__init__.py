"""Thermal breakthrough in a one-dimensional reservoir, with exact fractions."""
