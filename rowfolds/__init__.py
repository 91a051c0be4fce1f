"""Rowfolds: rows of numbers and their blocks."""
