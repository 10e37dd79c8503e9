"""Asunmoved: reading rows part by part while they are moved."""
