"""The end of a direction that writes."""
