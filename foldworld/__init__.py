"""Foldworld: one strip, folded in every way."""
