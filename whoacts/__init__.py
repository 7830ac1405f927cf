"""Whoacts: groups of square-free numbers, and who moves whom."""
