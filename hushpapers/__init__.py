"""Hushpapers: exact counts for papers about covered values."""
