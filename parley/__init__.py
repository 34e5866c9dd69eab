"""Parley: checking communicating processes."""
