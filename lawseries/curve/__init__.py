"""Curves of laws: shifted, stretched, picked, and told by terms."""
