"""Loose data and shapes."""
