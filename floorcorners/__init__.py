"""Floorcorners: straight formulas rounded down, on stretches of whole numbers."""
