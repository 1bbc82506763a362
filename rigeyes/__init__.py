"""Rigeyes: many lookers about one place, and what they tell together."""
