"""Tests of floorcorners; run them by: python3 -m unittest discover -s tests -t ."""
