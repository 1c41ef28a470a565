"""Nestsay: sayings about what lies in which room of what."""
