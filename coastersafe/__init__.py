"""Coastersafe: the safety of a roller coaster, from the track to the logic."""
