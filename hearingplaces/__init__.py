"""A room's acoustics: where in a room one is heard, and by how many ways."""
