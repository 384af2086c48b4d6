"""Bestsets: best sets that two rules allow, kept under changes."""
