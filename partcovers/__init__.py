"""Exact area coverage of polygons in pixels."""
