"""Gapbench: a text with a gap where the hand is."""
