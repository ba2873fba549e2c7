"""Shapekin: trees told alike whatever their knots are called."""
