"""Floors laid with slabs of two cells."""
