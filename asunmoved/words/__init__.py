"""Readings of one table: what they miss, which are the cheapest, and what extra copies change."""
