"""Bellwheel: bells on a wheel of slots, with turns to go."""
