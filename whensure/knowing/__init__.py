"""What a device knows of all devices, and what it tells others of it."""
