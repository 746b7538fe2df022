"""Walks that never come to a place twice."""
