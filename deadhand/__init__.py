"""Deadhand: land given in layers, to the living and the unborn."""
