"""Bestlooks: where to measure, for all designs, with papers."""
