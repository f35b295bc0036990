"""Boxes in which nothing goes round, and what no such box can tell apart."""
