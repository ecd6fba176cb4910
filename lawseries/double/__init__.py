"""Double rows: power series in two letters, as far as they are known."""
