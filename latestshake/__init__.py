"""Latestshake: all places and moments that told arrivals allow, exactly."""
