"""Decisions: two tables of rules over points, and what they decide."""
