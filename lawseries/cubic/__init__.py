"""Cubics: their rows, laws and traces."""
