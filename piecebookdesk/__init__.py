"""Composing pieces from themes and derived parts."""
