"""Turns, boxes without them, and what a box sees of machines."""
