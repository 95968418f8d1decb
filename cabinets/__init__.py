"""Who can govern: votes on sets of parties, and which cabinets stand."""
