"""Least ambiguous texts of a grammar."""
