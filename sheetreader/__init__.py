"""Sheets filled by hand, read right or told unsure."""
