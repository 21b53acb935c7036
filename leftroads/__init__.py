"""Leftroads: roads of left and right turns to numbers."""
