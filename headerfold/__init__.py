"""Headerfold: mail headers that are read and folded."""
