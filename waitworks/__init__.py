"""Simulator of queueing networks."""
