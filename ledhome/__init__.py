"""Ledhome: things led home by exchanges of neighbours at once."""
