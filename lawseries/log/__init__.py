"""Logs: the rows that lead laws to x + y."""
