"""Relays that move in whatever order."""
