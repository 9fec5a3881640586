"""Farseen: what flat pictures tell of a body that was turned between them."""
