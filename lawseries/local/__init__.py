"""Laws at one prime that are told by their p-fold."""
