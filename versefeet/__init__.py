"""Verses scanned by a measure, and verses made from a stock of words."""
