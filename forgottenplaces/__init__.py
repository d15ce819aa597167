"""Forgotten where one began: exact chances of places under tables that nobody knows ahead."""
