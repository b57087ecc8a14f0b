"""Finebook: jobs with ends and fines, one a tick."""
