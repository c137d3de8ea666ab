"""Braid book: braids of up to sixteen strands."""
