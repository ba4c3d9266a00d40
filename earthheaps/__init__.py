"""Optimal transport on a graph: lowest costs, and the plans and potentials behind them."""
