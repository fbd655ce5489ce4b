"""Ziggurat: a tower of interpreters that change one another, and its collapse."""
