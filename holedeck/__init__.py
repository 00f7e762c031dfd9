"""Holedeck: an office of cards with holes."""
