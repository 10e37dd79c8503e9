"""Stores of rows, and questions to them."""
