"""Frames: which devices, clocks, links and sources there are, and their texts."""
