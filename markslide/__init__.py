"""Markslide: markers slid so that no two touch."""
