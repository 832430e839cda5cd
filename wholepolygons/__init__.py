"""Polygons of whole points."""
