"""Eldermap: maps of names to values with every elder version kept."""
