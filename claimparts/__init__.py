"""Claims over a few letters, taken apart into parts that share none."""
