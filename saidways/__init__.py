"""Grammars as they come: whether a text is said, and in how many ways."""
