"""Lookscan: fill orders of grids, compared for every size."""
