"""Allbide: times that keep their distances."""
