"""Anyspan: rows of which any so many places hold so many marks."""
