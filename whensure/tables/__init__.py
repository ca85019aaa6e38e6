"""Tables of the distances between points."""
