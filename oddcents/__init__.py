"""Oddcents: friends who split bills, and the odd cents."""
