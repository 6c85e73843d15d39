"""Buybook: exact answers from a book of purchases."""
