"""Movers, their joint placements and the ways between these."""
