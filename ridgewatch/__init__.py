"""Ridgewatch: how few drones see all of a mountain, how few cameras all of a room."""
