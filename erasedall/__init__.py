"""Erased with all that came of it, whole."""
