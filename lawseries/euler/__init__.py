"""Rows of integers that go by the rules of Euler."""
