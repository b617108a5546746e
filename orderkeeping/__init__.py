"""Orders and keeping: by which orders it costs least, and from which day on that is settled."""
