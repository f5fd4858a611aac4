"""Loggather: lines of a log gathered under patterns."""
