"""Boatbridge: a bridge of boats, opened for ships."""
