"""A room's acoustics: the taps by which a room answers a sound."""
