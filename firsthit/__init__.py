"""Firsthit: what a ray meets first, never missed."""
