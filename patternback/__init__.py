"""Patternback: patterns matched by going back, and by going through all ways at once."""
