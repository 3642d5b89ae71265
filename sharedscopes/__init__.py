"""Sharedscopes: many editors of one program."""
