"""Slideback: decks whose cards go back each to its own depth."""
