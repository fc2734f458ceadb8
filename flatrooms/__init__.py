"""Flatrooms: lots that are free, the room of their flats, and why its numbers bend."""
