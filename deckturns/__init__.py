"""Cards shuffled in known ways."""
