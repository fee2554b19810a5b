"""A room's acoustics: rooms."""
