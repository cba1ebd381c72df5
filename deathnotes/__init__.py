"""Deathnotes: things lent across houses by handles."""
