"""Hitch: a language for tangles and links."""
