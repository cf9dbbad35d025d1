"""Allbutts: which year buys more water, whatever the butt."""
