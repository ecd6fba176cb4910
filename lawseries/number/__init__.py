"""Numbers of Bernoulli, for any log."""
