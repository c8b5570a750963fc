"""Cornerhunt: who hides and who seeks on a web."""
