"""Leapcart: folk who leap off a cart, and drive it by that."""
