"""Bushes of coloured joints, and the fewest coins from one to another."""
