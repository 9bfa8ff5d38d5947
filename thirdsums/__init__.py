"""Third order: sums of a system, reckoned exactly."""
