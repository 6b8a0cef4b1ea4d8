"""Programs that surely end, and touch only what they may."""
