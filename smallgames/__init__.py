"""A small games machine."""
