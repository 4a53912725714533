"""Pinwall: notes on a wall, moved over from one half to the other."""
