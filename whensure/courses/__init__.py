"""Courses: instants for all points of a view, which show that a number is possible."""
