"""Pinshelf: books between pins."""
