"""Outlines of lines and curves, filled into a picture."""
