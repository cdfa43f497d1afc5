"""Combinations of a totalisator's pools: see totecombos.pools for the calls."""
