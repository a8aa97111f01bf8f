"""Quirekiln: a page engine that repeats only the work that an edit requires."""
