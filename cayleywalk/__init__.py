"""Cayleywalk: words in groups, with moves or certificates."""
