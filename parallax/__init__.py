"""Parallax: properties of several runs at once."""
