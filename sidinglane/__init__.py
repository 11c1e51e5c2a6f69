"""Sidinglane: trains that pass one another on one lane."""
