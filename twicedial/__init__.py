"""Twicedial: the ring of fractions, doubled."""
