"""Picked ways, primes in them and free places of their rows, by figures and carries."""
