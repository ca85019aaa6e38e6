"""Choices of the parts that may be broken, and what they leave possible."""
