"""Verses, scanned in all ways: versescan.desk.answers answers a list of calls."""
