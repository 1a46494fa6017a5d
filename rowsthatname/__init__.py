"""Rows of a test that name which lots of settings fail."""
