"""Fewtell: what a few drawn people tell of all people."""
