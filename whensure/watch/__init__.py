"""Watches: what devices ask for times, and what their events and letters are made by."""
