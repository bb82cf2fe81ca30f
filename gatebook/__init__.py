"""Gatebook: who may do what where, and by which road of grants."""
