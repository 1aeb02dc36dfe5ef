"""Anycut: calls that are done in batches."""
