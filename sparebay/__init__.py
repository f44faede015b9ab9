"""Sparebay: pieces on the bays of any web, one bay empty."""
