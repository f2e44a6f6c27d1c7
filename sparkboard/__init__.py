"""Sparkboard: circuits that run on a board of cells."""
