"""Bedtwos: guests put in twos, and the rings by which that can't be."""
