"""Pagestrue: pages of cells run in any order, and what is true for sure of them."""
