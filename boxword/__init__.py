"""Boxword: words of letters without end, and machines with few boxes."""
