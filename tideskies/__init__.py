"""Tidehall: skies."""
