"""Benches of strangers, where the right of two to sit together is a thing that is spent."""
