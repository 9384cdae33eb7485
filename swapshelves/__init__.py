"""Swapshelves: carriers who exchange parcels at shelves."""
