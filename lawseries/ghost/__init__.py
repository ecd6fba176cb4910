"""Ghosts: integers whose row is whole."""
