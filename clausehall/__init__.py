"""Clauses: what can hold together, and why not."""
