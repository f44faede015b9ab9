"""Tests of sparebay."""
