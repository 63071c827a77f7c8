"""Floors, boxes and rooms filled by bars."""
