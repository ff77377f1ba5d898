"""Dice that may be numbered as one likes: ways to sums, and who wins against whom."""
