"""One end of a connection."""
