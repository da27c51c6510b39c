"""Wordmachines: finite machines that turn words into words."""
