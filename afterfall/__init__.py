"""Afterfall: what a store can hold after a fall."""
