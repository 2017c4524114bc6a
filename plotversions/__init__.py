"""Versioned store of features."""
