"""Hosts and their options."""
