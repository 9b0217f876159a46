"""Floors laid with pieces of two cells, and the turns that lead from one laying to another."""
