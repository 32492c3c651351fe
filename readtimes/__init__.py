"""What's read when: groups of channels, their readings, and what came too late."""
