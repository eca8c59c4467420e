"""Grants that lapse."""
