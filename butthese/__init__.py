"""Butthese: all trees but these."""
