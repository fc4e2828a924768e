"""Chute: repairing a marble run."""
