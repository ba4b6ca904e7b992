"""Matchlines: two books compared, at every price at once."""
