"""A desk that keeps rules valid while the agenda changes."""
