"""Trackorder: who came first, read from crossed footprints."""
