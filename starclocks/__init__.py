"""Starclocks: hands that meet two at a time, and marks by which all that was ahead can be told."""
