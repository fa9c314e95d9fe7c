"""Seerings: a card index whose cards lead to one another."""
