"""Drawnworks: rows drawn by works that are handed in."""
