"""Everybody plays everybody, whole: leagues side by side, and what is told of each."""
