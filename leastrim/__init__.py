"""Leastrim: places chosen with the fewest neighbours, or the fewest ties, outside."""
