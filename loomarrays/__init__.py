"""Loomarrays: whole tables, and the loops they are written into."""
