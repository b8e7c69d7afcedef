"""Envelopes of a budget that are filled in order."""
