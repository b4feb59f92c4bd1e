"""Turnweights: weighed switches that remember turns."""
