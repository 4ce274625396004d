"""Touchrights: what houses let that nobody sees into."""
