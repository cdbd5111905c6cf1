"""Rules, and which of them an agenda has."""
