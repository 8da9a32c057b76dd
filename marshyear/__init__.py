"""Marshyear: a calendar of eleven months."""
