"""A line of machines with room between them, told exactly."""
