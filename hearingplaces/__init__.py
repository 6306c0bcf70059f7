"""A room's acoustics: where in a room one is heard, by how many ways and how loud, and where to speak best."""
