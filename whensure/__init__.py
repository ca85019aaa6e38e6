"""Whensure: exact times from clocks that may be wrong."""
