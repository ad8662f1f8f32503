"""Talks by locked and sealed messages, and the enemy who joins in."""
