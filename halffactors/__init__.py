"""Two-level fractional factorial designs."""
