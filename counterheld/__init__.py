"""Counterheld: scores held short, and every question asked of the short score."""
