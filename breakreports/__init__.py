"""Breakreports: rows told by turns of keys."""
