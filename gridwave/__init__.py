"""Signals and pictures: the calls stand in gridwave.both."""
