"""Dolls within dolls: a collection of hollow dolls, and which one is in which."""
