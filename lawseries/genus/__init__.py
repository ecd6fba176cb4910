"""Genera: laws that are told by numbers of manifolds."""
