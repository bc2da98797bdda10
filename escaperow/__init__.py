"""Escaperow: rows of signs in frames."""
