"""Leastmarks: a compiler for a language with owned values."""
