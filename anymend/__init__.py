"""Anymend: stores that are mended for ever."""
