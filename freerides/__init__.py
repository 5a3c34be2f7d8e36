"""Freerides: each ride is stamped on cards, and full cards give rides."""
