"""Marks through a graph of places and channels."""
