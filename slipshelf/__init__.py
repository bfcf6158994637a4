"""Slips for files: they are asked for, served in turn, and come back."""
