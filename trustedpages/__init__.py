"""Trusted pages: marks that say that everybody sees all rows of a page."""
