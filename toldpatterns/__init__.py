"""Patterns: leftmost, longest, captures by one told order."""
