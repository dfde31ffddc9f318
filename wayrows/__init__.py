"""Wayrows: webs of descent, told by counts of ways."""
