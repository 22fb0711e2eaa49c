"""The end of a direction that reads."""
