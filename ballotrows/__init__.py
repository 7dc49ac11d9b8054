"""Ballots of 512 questions counted and taken back, and rows of 64 bytes told from the counts."""
