"""Points of time, and the bounds between them that events imply."""
