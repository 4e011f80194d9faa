"""Swapkinds: things of up to four kinds in the wrong places, in any numbers."""
