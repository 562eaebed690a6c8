"""Foldbook: maps that fold points together, and what they make."""
