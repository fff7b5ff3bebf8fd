"""Sharenet: an optimal reducer for a functional language with levels."""
