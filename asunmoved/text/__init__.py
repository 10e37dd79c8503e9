"""Texts of movers, readers, stores and events, and a shell of commands."""
