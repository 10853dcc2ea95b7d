"""Offline evaluation of policies from a log of past decisions."""
