"""Bearings: where a fire may be, by what its towers tell."""
