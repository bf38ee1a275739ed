"""Sortes: lots drawn before everybody, that nobody bends."""
