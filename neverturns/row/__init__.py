"""Rows of resets, of which each box is made."""
