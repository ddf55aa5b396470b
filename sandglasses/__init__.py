"""Sandglasses: which times can be told by turning them."""
