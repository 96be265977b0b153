"""Duties by rules: which pieces of work make a duty, what is wrong with one, what the least pay is."""
