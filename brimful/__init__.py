"""Brimful: computing in memory that is full of somebody else's data."""
