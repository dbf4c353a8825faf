"""Rows with arrows: tables, the arrows between their rows, and the maps between fillings."""
