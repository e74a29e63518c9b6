"""Screwsums: sums of motions, and which of them can be undone."""
