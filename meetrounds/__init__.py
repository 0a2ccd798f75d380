"""Meetrounds: rounds in which two sides meet."""
