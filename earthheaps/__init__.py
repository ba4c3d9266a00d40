"""Optimal transport on a graph: distributions, lowest costs and optimal plans."""
