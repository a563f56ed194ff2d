"""Rows and columns: boxes that come out to the unit."""
