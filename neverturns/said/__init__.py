"""Sayings, which tell of words by what was ahead where they end."""
