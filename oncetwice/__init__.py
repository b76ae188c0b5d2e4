"""Oncetwice: many cells at once, one writing at a time."""
