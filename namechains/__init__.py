"""Namechains: persons who call one another by names."""
