"""Laws of adding that are power series, told by logs, integers, primes, curves and genera."""
