"""A picture of what's under way: coins on channels, and snapshots of the whole."""
