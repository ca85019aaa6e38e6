"""Papers, which show what is returned about two events."""
