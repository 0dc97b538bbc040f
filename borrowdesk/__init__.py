"""Borrowdesk: things lent to read or to write within blocks."""
