"""Dayshares: standing orders paid by share of days."""
