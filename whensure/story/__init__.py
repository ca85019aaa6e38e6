"""What happens: events, letters and views, and their texts."""
