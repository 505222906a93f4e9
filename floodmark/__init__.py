"""Floodmark: exact analysis of systems whose quantities change over time."""
