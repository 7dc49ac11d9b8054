"""Ballots of 512 questions counted, and rows of 64 bytes chosen from, picked from, cut, multiplied and tested."""
