"""Holetubs: tubs with holes at heights, each letting so much an hour."""
