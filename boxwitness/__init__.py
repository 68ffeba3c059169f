"""Boxes chosen for names, and whether every run tells the same."""
