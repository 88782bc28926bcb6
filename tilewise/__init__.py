"""Tiles: sheets told in few bytes, read back to the bit."""
