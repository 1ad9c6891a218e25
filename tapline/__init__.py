"""Tapline: tracing a machine that does not notice it."""
