"""Turnfork: tokens through switches that take turns."""
