"""Letterfolds: finite monoids, their classes, and the languages that they tell."""
