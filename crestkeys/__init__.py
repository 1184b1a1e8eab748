"""Crestkeys: cards with keys and ranks, one tree for each set of them."""
