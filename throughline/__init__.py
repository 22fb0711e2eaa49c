"""Throughline: streams over a network that loses, repeats, delays and reorders."""
