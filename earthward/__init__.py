"""Earthward: bars under power, and places where hands may work."""
