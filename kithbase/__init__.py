"""Kithbase: a local-first database for a group."""
