"""Gatherings of old books: rows of leaves and stubs that pair off without crossing."""
