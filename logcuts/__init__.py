"""A stem cut into logs."""
