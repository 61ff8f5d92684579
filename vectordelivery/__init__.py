"""Causal delivery of events with known vectors."""
