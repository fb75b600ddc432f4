"""Chips on a chain: a board that is tested through one wire."""
