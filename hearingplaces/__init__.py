"""A room's acoustics: where one is heard, by how many ways and how loud, and where speakers are to stand."""
