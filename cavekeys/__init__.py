"""A cave with rooms, beasts and things, played by keys."""
