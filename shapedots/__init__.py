"""Drawings of shapes, told exactly, dot by dot."""
