"""Trials: all devices of a frame on a given true time."""
