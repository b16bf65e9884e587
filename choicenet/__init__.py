"""Choicenet: statements over switches, and the shared graphs that tell what they mean."""
