"""Maps, clouds of them, and what no box can tell apart."""
