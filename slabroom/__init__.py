"""Slabroom: things of a few sizes on shelves of their own."""
