"""A desk with laws and rows that keeps what was promised."""
