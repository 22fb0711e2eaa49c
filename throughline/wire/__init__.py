"""Octets, segments and their written form."""
