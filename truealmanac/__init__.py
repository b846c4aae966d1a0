"""Truealmanac: an almanac whose moments are exact and complete."""
