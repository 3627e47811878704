"""Pieces that fill a board."""
