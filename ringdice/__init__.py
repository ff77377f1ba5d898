"""Dice that may be numbered as one likes: ways to sums, who beats whom, rounds, and usual pairs."""
