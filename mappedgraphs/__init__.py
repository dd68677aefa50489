"""Graphs beside one another, and how they are mapped into one another."""
