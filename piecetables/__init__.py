"""Piecetables: sums of a few of many yes-no questions, and one table behind them."""
