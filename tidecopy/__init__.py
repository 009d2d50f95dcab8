"""Tidecopy: a table copied in pieces while it changes."""
