"""Grammars as they come: whether a text is said, in how many ways, the k-th way, what may stand next."""
