"""The last letters of words, and the kinds of two machines."""
