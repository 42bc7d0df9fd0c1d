"""Hitch: transforming one tangle into another by moves."""
