"""Buckets passed along a row of people, reckoned in whole numbers."""
