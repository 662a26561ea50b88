"""Shapes of land in files."""
