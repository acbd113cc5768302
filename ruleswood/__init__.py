"""Ruleswood: pairs of terms grown into rules."""
