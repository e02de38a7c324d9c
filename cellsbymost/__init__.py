"""Cells kept by most, whole."""
