"""Glue: works of put parts, and how strong their puts hold one another."""
