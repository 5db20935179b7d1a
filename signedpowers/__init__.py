"""Competence: who could decide what, on which day."""
