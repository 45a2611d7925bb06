"""An office's list of things, and what they are called in both tongues."""
