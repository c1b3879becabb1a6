"""Told pushes: strengths of pushes told back from how things go together."""
