"""Coins in a row, taken in turns from either end."""
