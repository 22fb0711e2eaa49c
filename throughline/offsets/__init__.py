"""Offsets, their wire numbers, sets of offsets, and pieces."""
