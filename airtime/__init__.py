"""Airtime: rows that are aired to the second."""
