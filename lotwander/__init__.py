"""Lotwander: walks by chance, reckoned exactly."""
