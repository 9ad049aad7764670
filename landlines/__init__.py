"""Landlines: what straight fences leave of a field."""
