"""Many streams, or messages, over one stream (part 9)."""
