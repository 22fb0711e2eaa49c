"""Nets of hosts, and what happens to the packets between them."""
