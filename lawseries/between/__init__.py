"""Rows between laws."""
