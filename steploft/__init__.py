"""Steploft: machine instructions as rows of small steps."""
