"""Sentences about runs that never end, decided by finite tables."""
