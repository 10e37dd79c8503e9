"""Readers, and their runs beside one chain of rows."""
