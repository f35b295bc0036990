"""Texts of machines, boxes, recipes and clouds."""
