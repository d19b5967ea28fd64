"""Laid out: records whose leaves stand in as little room as can be."""
