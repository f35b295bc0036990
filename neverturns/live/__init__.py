"""A watch over words that come piece by piece."""
