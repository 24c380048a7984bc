"""Keptrow: dealings on a shelf of versions."""
