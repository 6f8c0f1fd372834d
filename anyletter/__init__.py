"""Anyletter: programs whose text may be damaged anywhere, and which still run the same."""
