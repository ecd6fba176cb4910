"""Rows: power series in one letter, as far as they are known."""
