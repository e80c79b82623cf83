"""Congestion-free flow migration planner."""
