"""Boundstead: a spatial database whose answers come with evidence."""
