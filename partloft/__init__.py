"""Partloft: parts made and cut with exact numbers."""
