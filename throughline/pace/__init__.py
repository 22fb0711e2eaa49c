"""Round trips, waits and deadlines."""
