"""Stretchtree: sums, least and greatest over stretches of a row."""
