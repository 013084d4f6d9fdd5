"""Deliveries along a street with deadlines."""
