"""Callplans: plans of calls that may stand for one another."""
