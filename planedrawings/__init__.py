"""Graphs drawn in the plane, or why they can't be."""
