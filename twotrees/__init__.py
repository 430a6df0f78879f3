"""Least ambiguous texts of a grammar, and where two trees part."""
