"""Lostland: sheets of a land that nobody has seen whole."""
