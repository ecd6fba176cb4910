"""Parts and types of logs at a prime."""
