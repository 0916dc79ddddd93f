"""A line laid over ground, station by station."""
