"""Arithmetic circuits made of truth functions."""
