"""Countonce: reports that count each row once."""
