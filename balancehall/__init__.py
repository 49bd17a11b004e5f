"""Balancehall: changes of matter, balanced exactly, in whole numbers alone."""
