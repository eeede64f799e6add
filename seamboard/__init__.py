"""Checks on a board that joins round about."""
