"""Laws: double rows that add."""
